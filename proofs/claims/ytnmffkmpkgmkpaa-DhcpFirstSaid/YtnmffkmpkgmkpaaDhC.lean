/-
  Package dhcp: options gone through, each into the map.
-/
import Derived.Test.YtnmffkmpkgmkpaaDhB
import Derived.Outline
import Derived.Test.YtnmffkmpkgmkpaaTail
set_option maxRecDepth 4000
set_option linter.unusedVariables false
set_option linter.unusedSimpArgs false
namespace Go.Proofs.Ytnmffkmpkgmkpaa
open Go.RowKit

theorem optV_hend {b : List Int} (h : 0 < b.length) (h0 : b.getD 0 0 = 255) : optV b = ([], true) := by
  obtain ⟨x, r, rfl⟩ : ∃ x r, b = x :: r := ⟨b.head (List.ne_nil_of_length_pos h), b.tail, by simp⟩
  simp at h0
  subst h0
  exact optV_end r
theorem optV_hzero {b : List Int} (h : 0 < b.length) (h0 : b.getD 0 0 = 0) : optV b = optV (b.drop 1) := by
  obtain ⟨x, r, rfl⟩ : ∃ x r, b = x :: r := ⟨b.head (List.ne_nil_of_length_pos h), b.tail, by simp⟩
  simp at h0
  subst h0
  exact optV_zero r
theorem optV_hbad {b : List Int} (h : 0 < b.length) (h0 : b.getD 0 0 ≠ 0) (h1 : b.getD 0 0 ≠ 255) (h2 : b.length ≤ 1 ∨ (b.length : Int) < 2 + b.getD 1 0) : optV b = ([], false) := by
  match b, h, h0, h1, h2 with
  | [x], _, h0, h1, _ => exact optV_short (by simpa using h0) (by simpa using h1)
  | x :: n :: t, _, h0, h1, h2 => exact optV_bad (by simpa using h0) (by simpa using h1) (by simp at h2; omega)
theorem optV_hone {b : List Int} (h : 0 < b.length) (h0 : b.getD 0 0 ≠ 0) (h1 : b.getD 0 0 ≠ 255) (h2 : ¬ (b.length ≤ 1 ∨ (b.length : Int) < 2 + b.getD 1 0)) (h4 : 0 ≤ b.getD 1 0) :
    optV b = ((b.getD 0 0, cutL b 2 (2 + (b.getD 1 0).toNat)) :: (optV (b.drop (2 + (b.getD 1 0).toNat))).1, (optV (b.drop (2 + (b.getD 1 0).toNat))).2) := by
  match b, h, h0, h1, h2, h4 with
  | [x], _, _, _, h2, _ => simp at h2
  | x :: n :: t, _, h0, h1, h2, h4 =>
    simp only [List.getD_cons_zero, List.getD_cons_succ, List.length_cons] at h0 h1 h2 h4
    have hg : (x :: n :: t).getD 1 0 = n := rfl
    have hg0 : (x :: n :: t).getD 0 0 = x := rfl
    have hd : (x :: n :: t).drop (2 + n.toNat) = t.drop n.toNat := by rw [Nat.add_comm]; rfl
    rw [hg, hg0, hd, optV_one h0 h1 (by omega)]
    unfold cutL
    rw [show 2 + n.toNat - 2 = n.toNat by omega]
    rfl
/-- What is told: nothing where they are no options. -/
def oiF (ok : Bool) (f : Int → Option Int) : Int → Option Int := if ok then f else noneI
def sliceL : Value → Nat
  | .slice _ n _ => n
  | _ => 0
set_option maxHeartbeats 4000000 in
theorem optionsIn_c {v : Value} {xs : List Int} (hl : xs.length ≤ 140737488355328) {w : World} (hb : Buf w v xs) :
    Calls Try.prog 14 #[v] w fun e w' => ∃ m, e = .returned (.tuple #[m, .bool (optV xs).2]) ∧ OV w' m (oiF (optV xs).2 (tkAll noneI (optV xs).1)) ∧ Grew w w' := by
  obtain ⟨R1, hR1⟩ : ∃ R1, R1 = tkAll noneI (optV xs).1 := ⟨_, rfl⟩
  obtain ⟨R2, hR2⟩ : ∃ R2, R2 = (optV xs).2 := ⟨_, rfl⟩
  rw [← hR1, ← hR2]
  have HV : Hid (tkAll noneI (optV xs).1 = R1 ∧ (optV xs).2 = R2) := Lib.hid ⟨hR1.symm, hR2.symm⟩
  obtain ⟨n, hn⟩ : ∃ n, n = xs.length := ⟨_, rfl⟩
  rw [← hn] at hl
  have HN := Lib.hid hn
  have HBX := Lib.hid (hb.grew ((Grew.refl w).alloc (.map #[] 0)))
  have HIX := Lib.hid (IMap.made (P := Try.prog) (k := 5) (e := 24) (qk := .u8) (qe := .u32) w)
  have HGX := Lib.hid ((Grew.refl w).alloc (.map #[] 0))
  clear hR1 hR2 hb hn
  have hmm := @run_makeMap Try.prog
  go_enter Try.func14, Try.ntmps14
  go_upto_region 2 with fail
  clear hmm
  have HMW := Lib.hid (Nat.le_refl w.heap.size)
  generalize w.alloc (.map #[] 0) = w0 at *
  generalize hM : w.heap.size = M at HIX ⊢
  have HMW := Lib.hid (show w.heap.size ≤ M by omega)
  clear hM
  go_loopw [0] (fun o wr => ∃ (ys : List Int) (k : Nat) (F : Int → Option Int), Hid (Buf wr o ys) ∧ Hid (k + ys.length = n) ∧ Hid (OM wr M (7 * k) F) ∧ Hid (Grew w wr) ∧ Hid (tkAll F (optV ys).1 = R1 ∧ (optV ys).2 = R2)) (fun o _ => sliceL o)
  case atStart => exact ⟨xs, 0, noneI, HBX, Lib.hid (by rw [HN.out]; omega), HIX, HGX, HV⟩
  case round =>
    clear HBX HIX HGX HV
    obtain ⟨ys, k, F, HB, HK, HI, HG, HR⟩ := hrel
    have hB := HB.out
    obtain ⟨a, c, rfl, _, ha⟩ := hB.shape
    by_cases hne : ys = []
    · subst hne
      have HRES : Hid (R2 = true ∧ R1 = F) := Lib.hid (by have := HR.out; rw [optV_nil, tkAll_nil] at this; exact ⟨this.2.symm, this.1.symm⟩)
      clear ha hB
      go_wp2_with fail
      try dsimp only [Exit.noGoto]
      go_ret2
      obtain ⟨q1, q2⟩ := HRES.out
      rw [q1, q2]
      exact ⟨_, rfl, OV.some HI.out, HG.out⟩
    · have hp : 0 < ys.length := List.length_pos_iff.2 hne
      have hp' : (0 : Int) < (ys.length : Int) := by omega
      have hkn := HK.out
      obtain ⟨bk, off, rfl, hat⟩ := ha hne
      have x0 := hat 0 hp
      rw [Nat.add_zero] at x0
      have hz0 := hB.ok.getD 0
      have hz1 := hB.ok.getD 1
      by_cases z1 : ys.getD 0 0 = 255
      · have HRES : Hid (R2 = true ∧ R1 = F) := Lib.hid (by have := HR.out; rw [optV_hend hp z1, tkAll_nil] at this; exact ⟨this.2.symm, this.1.symm⟩)
        rw [z1] at x0
        clear hat ha hB hz0 hz1 z1 hne hkn
        go_wp2_with fail
        try dsimp only [Exit.noGoto]
        go_ret2
        obtain ⟨q1, q2⟩ := HRES.out
        rw [q1, q2]
        exact ⟨_, rfl, OV.some HI.out, HG.out⟩
      · have HO := Lib.hid (oszD_c hne wr hB)
        by_cases z0 : ys.getD 0 0 = 0
        · have HRES : Hid (tkAll F (optV (ys.drop 1)).1 = R1 ∧ (optV (ys.drop 1)).2 = R2) := Lib.hid (by rw [← optV_hzero hp z0]; exact HR.out)
          have ez : oszD ys = 1 := by unfold oszD; rw [if_pos z0]
          rw [ez] at HO
          rw [z0] at x0
          obtain ⟨a', c', hcut, s1, s2, s3, hrun⟩ := hB.run_cut (lo := 1) (hi := ys.length) (by omega) (by omega)
          have hr : ∀ w', (Instr.sliceAt 22 (.slice (some ⟨bk, off, none⟩) ys.length c) (some (.int .i64 1)) none none).run Try.prog w' = .ok (.slice a' (ys.length - 1) c') w' := hrun rfl .i64
          rw [cutL_rest] at hcut
          have HCUT := Lib.hid hcut
          have HK1 := Lib.hid (show k + 1 + (ys.drop 1).length = n by rw [List.length_drop]; omega)
          have HI1 := Lib.hid (show OM wr M (7 * (k + 1)) F from HI.out.mono (by omega))
          clear s1 s2 s3 hrun hcut hat ha hB hz0 hz1 z0 z1 hne ez hkn
          go_wp2_with fail
          refine HO.out.mono ?_
          rintro e wx ⟨rfl, hx⟩
          obtain rfl := hx.symm
          go_wp2_with fail
          go_roundw
          case rel => exact ⟨ys.drop 1, k + 1, F, HCUT, HK1, HI1, HG, HRES⟩
          case measure => simp only [sliceL]; omega
        · by_cases hbad : ys.length ≤ 1 ∨ (ys.length : Int) < 2 + ys.getD 1 0
          · have HRES : Hid (R2 = false) := Lib.hid (by have := HR.out; rw [optV_hbad hp z0 z1 hbad] at this; exact this.2.symm)
            have ez : oszD ys = 0 := by unfold oszD; rw [if_neg z0, if_pos hbad]
            rw [ez] at HO
            have e1 : (ys.getD 0 0 != 255) = true := by simpa using z1
            clear hat ha hB hz0 hz1 z0 z1 hne ez hkn hbad
            generalize ys.getD 0 0 = y0 at *
            go_wp2_with fail
            refine HO.out.mono ?_
            rintro e wx ⟨rfl, hx⟩
            obtain rfl := hx.symm
            go_wp2_with fail
            try dsimp only [Exit.noGoto]
            go_ret2
            rw [HRES.out]
            exact ⟨_, rfl, OV.nil _, HG.out⟩
          · have ez : oszD ys = 2 + ys.getD 1 0 := by unfold oszD; rw [if_neg z0, if_neg hbad]
            obtain ⟨m, hm⟩ : ∃ m : Nat, ys.getD 1 0 = (m : Int) := ⟨(ys.getD 1 0).toNat, by omega⟩
            have ho := optV_hone hp z0 z1 hbad (by omega)
            rw [hm, Int.toNat_natCast] at ho
            have HRES : Hid (tkAll (tkV F (ys.getD 0 0) (cutL ys 2 (2 + m))) (optV (ys.drop (2 + m))).1 = R1 ∧ (optV (ys.drop (2 + m))).2 = R2) := Lib.hid (by have := HR.out; rw [ho] at this; exact this)
            rw [ez, hm, show (2 : Int) + (m : Nat) = ((2 + m : Nat) : Int) by omega] at HO
            have hmn : 2 + m ≤ ys.length := by omega
            obtain ⟨a', c', hcut, s1, s2, s3, hrun⟩ := hB.run_cut (lo := 2 + m) (hi := ys.length) hmn (by omega)
            have hr : ∀ w', (Instr.sliceAt 22 (.slice (some ⟨bk, off, none⟩) ys.length c) (some (.int .i64 ((2 + m : Nat) : Int))) none none).run Try.prog w' = .ok (.slice a' (ys.length - (2 + m)) c') w' := hrun rfl .i64
            rw [cutL_rest] at hcut
            obtain ⟨a2, c2, hcut2, t1, hrun2, t3, t4⟩ := hB.run_cut (lo := 2) (hi := 2 + m) (by omega) hmn
            have hr2 : ∀ w', (Instr.sliceAt 22 (.slice (some ⟨bk, off, none⟩) ys.length c) (some (.int .i64 2)) (some (.int .i64 ((2 + m : Nat) : Int))) none).run Try.prog w' = .ok (.slice a2 (2 + m - 2) c2) w' := hrun2 .i64 .i64
            have HC := Lib.hid hcut
            have HC2 := Lib.hid hcut2
            have hl2 := Lib.hid (show (cutL ys 2 (2 + m)).length ≤ 140737488355328 by rw [cutL_length (by omega) hmn]; omega)
            have HK1 := Lib.hid (show k + (2 + m) + (ys.drop (2 + m)).length = n by rw [List.length_drop]; omega)
            have hb7 := Lib.hid (show 7 * k + 8 < 9223372036854775807 by omega)
            have e1 : (ys.getD 0 0 != 255) = true := by simpa using z1
            have e2 : (ys.getD 0 0 != 0) = true := by simpa using z0
            have em : (((2 + m : Nat) : Int) == 0) = false := by rw [beq_eq_false_iff_ne]; omega
            have hT := fun w' (g : Grew wr w') => take_c hz0.1 hz0.2 hl2.out hb7.out (IMap.grew HI.out g) (hcut2.grew g)
            have HT := Lib.hid hT
            clear s1 s2 s3 hrun hcut t1 hrun2 t3 t4 hcut2 hT hat ha hB hz1 z0 z1 hne ez hkn hbad ho hm HR
            generalize cutL ys 2 (2 + m) = ds at *
            generalize ys.getD 0 0 = y0 at *
            generalize h2m : 2 + m = m2 at *
            have h2m' := Lib.hid h2m
            clear h2m
            generalize tkV F y0 ds = F' at *
            go_wp2_with fail
            refine HO.out.mono ?_
            rintro e wx ⟨rfl, hx⟩
            obtain rfl := hx.symm
            go_wp2_with fail
            refine region_quiet_tail 7 (by kernel_rfl) (by kernel_rfl) ?_
            simp only [List.take_succ_cons, List.take_zero, List.drop_succ_cons, List.drop_zero]
            repeat (first | go_big_quiet_step (fail) | quiet_step (fail))
            refine wpQuiet_nil ?_
            intro nq
            have gq := (Grew.refl wr).drewN nq
            generalize wr.drewN nq = wa at *
            have HTK := Lib.hid (HT.out wa gq)
            have HBa := Lib.hid (HB.out.grew gq)
            have HCa := Lib.hid (HC.out.grew gq)
            have HIa := Lib.hid (IMap.grew HI.out gq)
            have HGa := Lib.hid (HG.out.trans gq)
            clear HT HB HC HI HG gq x0
            go_wp2_with fail
            refine HTK.out.mono ?_
            rintro e w5 ⟨rfl, hI5, hT5⟩
            have HI5 := Lib.hid (show OM w5 M (7 * (k + m2)) F' from hI5.mono (by have := h2m'.out; omega))
            have HC5 := Lib.hid (HCa.out.trnMap HIa.out hT5)
            have HG5 := Lib.hid (hT5.grew HGa.out HMW.out)
            clear hI5 hT5
            go_wp2_with fail
            go_roundw
            case rel => exact ⟨ys.drop m2, k + m2, F', HC5, HK1, HI5, HG5, HRES⟩
            case measure => simp only [sliceL]; have := h2m'.out; omega
end Go.Proofs.Ytnmffkmpkgmkpaa
