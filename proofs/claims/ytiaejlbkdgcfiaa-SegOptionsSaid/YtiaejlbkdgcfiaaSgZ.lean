/-
  Law 19's own: a text with its checksum; what the walk of SegOptions asks of numbers.
-/
import Derived.Test.YtiaejlbkdgcfiaaSgW
import Derived.Test.YtiaejlbkdgcfiaaSgQ
set_option maxRecDepth 4000
set_option linter.unusedVariables false
set_option linter.unusedSimpArgs false
namespace Go.Proofs.Ytiaejlbkdgcfiaa
open Go.RowKit

theorem patched_c {v : Value} {xs : List Int} (hl : xs.length ≤ 70000) {w : World} (hb : Buf w v xs) :
    Calls Try.prog 19 #[v] w fun e w' => ∃ u, e = .returned u ∧ Buf w' u ((patchV (psSG 1 2 xs.length ++ xs) 28).drop 12) ∧ Grew w w' := by
  obtain ⟨a, c, rfl, _, _⟩ := hb.shape
  have hlp : (psSG 1 2 xs.length).length = 12 := psSG_len ..
  have HB := Lib.hid hb
  have HOK := Lib.hid ((psSG_ok 1 2 xs.length).append hb.ok)
  have HLP := Lib.hid (show (patchV (psSG 1 2 xs.length ++ xs) 28).length = 12 + xs.length by rw [patch_len, List.length_append, hlp])
  have HPO := Lib.hid (patch_ok HOK.out 28)
  clear hlp hb
  obtain ⟨n, hn⟩ : ∃ n, n = xs.length := ⟨_, rfl⟩
  rw [← hn] at hl HB HOK HLP HPO ⊢
  have HLN := Lib.hid (show (pseudoV 1 2 6 (n : Nat)).length + xs.length ≤ 140737488355328 by rw [pseudoV_len, ← hn]; omega)
  clear hn
  go_enter Try.func19, Try.ntmps19
  go_wp2_with fail
  refine (refPseudo_c 1 2 6 (n : Nat) (by omega) (by omega) (by omega) (by omega) w).mono ?_
  rintro e w1 ⟨u1, rfl, r1, b1, g1⟩
  have HP := Lib.hid r1
  have HB1 := Lib.hid (HB.out.grew g1)
  clear r1 b1
  go_wp2_with (refine wpList_append_b (W := w) rfl (.tmp 6) (.tmp 7) rfl g1 HP.out HB1.out (by rfl) (by rfl) HLN.out ?_; intro v2 w2 R2 g2 x2; clear x2)
  have HC := Lib.hid (refPatch_c 28 (by omega) (by omega) w2 (R2.out.buf HOK.out) (by rw [List.length_append]; exact HLN.out))
  refine HC.out.mono ?_
  rintro e w3 ⟨u3, rfl, r3, g3⟩
  change Row w3 w2.heap.size u3 (patchV (psSG 1 2 n ++ xs) 28) at r3
  have hb3 := r3.buf HPO.out
  obtain ⟨p3, c3, rfl, _, _⟩ := hb3.shape
  obtain ⟨a4, c4, H4, x1, x2, x3, hrun⟩ := hb3.run_cut (lo := 12) (hi := (patchV (psSG 1 2 n ++ xs) 28).length) (by rw [HLP.out]; omega) (Nat.le_refl _)
  have hrun := hrun rfl .i64
  rw [cutL_rest] at H4
  rw [HLP.out] at H4 hrun ⊢
  rw [show 12 + n - 12 = n by omega] at H4 hrun
  have r : ∀ w', (Instr.sliceAt 23 (.slice p3 (12 + n) c3) (some (.int .i64 12)) none none).run Try.prog w' = .ok (.slice a4 n c4) w' := hrun
  replace H4 := Lib.hid H4
  clear x1 x2 x3 hrun r3 hb3
  go_wp2_with fail
  go_ret
  exact ⟨_, rfl, H4.out, g2.trans g3⟩
/-- What is known of a segment with strange options. -/
structure OptF (f : SGR) (os : List Int) (L : Nat) : Prop where
  len : os.length = L
  ok : AreBytes os
  b0 : 3 ≤ L
  b1 : (L : Int) ≤ 36
  got1 : getSGE (sgO f os 1 2) 1 2 = 0
  got2 : getSG (sgO f os 1 2) 1 2 = f
  raw : (((cutL (putSG f 1 2) 0 20 ++ os ++ cutL (putSG f 1 2) 20 (20 + f.x.length)).set 12 (80 + 4 * (L : Int))).set 16 0).set 17 0 = rawO f os
  rok : AreBytes (rawO f os)
  rlen : (rawO f os).length ≤ 70000
  put : (patchV (psSG 1 2 (rawO f os).length ++ rawO f os) 28).drop 12 = sgO f os 1 2
  slen : (sgO f os 1 2).length ≤ 140737488355328
  la : ([] : List Int).length + (cutL (putSG f 1 2) 0 20).length ≤ 140737488355328
  lb : ([] ++ cutL (putSG f 1 2) 0 20).length + os.length ≤ 140737488355328
  lc : ([] ++ cutL (putSG f 1 2) 0 20 ++ os).length + (cutL (putSG f 1 2) 20 (20 + f.x.length)).length ≤ 140737488355328
  clen : (cutL (putSG f 1 2) 0 20 ++ os ++ cutL (putSG f 1 2) 20 (20 + f.x.length)).length = 20 + L + f.x.length
theorem OptF.of {f : SGR} (hok : okSG f = true) (hq : 0 ≤ f.q ∧ f.q < 4294967296) (ha : 0 ≤ f.a ∧ f.a < 4294967296) (hx : AreBytes f.x) (hm : f.m = 0) (h3 : f.x.length ≤ 3000) {kind : Int} (hk : 3 ≤ kind ∧ kind < 256) {n R : Nat} (hn : n ≤ 30) (hR : R ≤ 3) (h4 : (3 + n + R) % 4 = 0) : OptF f (strange kind n R) (3 + n + R) := by
  have hl := strange_len kind n R
  have ho : AreBytes (strange kind n R) := strange_ok (by omega) hn
  have hg := got_sgO (f := f) (o := strange kind n R) hok hq ha hx (by rw [hl]; exact h4) (by rw [hl]; omega) ho (by rw [strange_mss hk.1 hn, hm]) 1 2
  have hp := putSG_len f 1 2
  have hs : slN f = 20 + f.x.length := by unfold slN opSG; rw [if_pos hm]; rfl
  rw [hs] at hp
  have hc1 : (cutL (putSG f 1 2) 0 20).length = 20 := by rw [cutL_length (by omega) (by omega)]
  have hc2 : (cutL (putSG f 1 2) 20 (20 + f.x.length)).length = f.x.length := by rw [cutL_length (by omega) (by omega)]; omega
  have hr := rawO_len f (strange kind n R)
  have hw := strange_raw hm (strange kind n R) 1 2
  rw [hp, hl] at hw
  exact ⟨hl, ho, by omega, by omega, hg.1, hg.2, hw, rawO_ok hok hx (by omega) ho, by omega, strange_put _ 1 2, by rw [sgO_len]; omega, by rw [hc1]; simp, by rw [List.nil_append, hc1, hl]; omega, by rw [List.nil_append, List.length_append, hc1, hc2, hl]; omega, by rw [List.length_append, List.length_append, hc1, hc2, hl]⟩
theorem pad_ex (n : Nat) : ∃ R, R ≤ 3 ∧ (3 + n + R) % 4 = 0 := ⟨(4 - (3 + n) % 4) % 4, by omega, by omega⟩
theorem pad_go {n r R L : Nat} (hL : L = 3 + n + r) (h : r < R) (h3 : R ≤ 3) (h4 : (3 + n + R) % 4 = 0) : (((L : Nat) : Int) % 4 != 0) = true := by
  have : ((L : Nat) : Int) % 4 ≠ 0 := by omega
  simpa using this
theorem pad_end {n R L : Nat} (hL : L = 3 + n + R) (h4 : (3 + n + R) % 4 = 0) : (((L : Nat) : Int) % 4 != 0) = false := by
  have : ((L : Nat) : Int) % 4 = 0 := by omega
  rw [this]
  rfl
theorem pad_meas {R n r L m : Nat} (hL : L = 3 + n + r) (hm : m = 3 + n + (r + 1)) (h : r < R) : R + 3 + n - m < R + 3 + n - L := by omega
theorem pad_36 {n r R : Nat} (hn : n ≤ 30) (hr : r ≤ R) (hR : R ≤ 3) : 3 + n + r ≤ 36 := by omega
theorem pad_len (kind : Int) {n r R : Nat} (hn : n ≤ 30) (hr : r ≤ R) (hR : R ≤ 3) : (strange kind n r).length + ([1] : List Int).length ≤ 140737488355328 := by rw [strange_len]; simp; omega
theorem pad_80 {L : Nat} (h : (L : Int) ≤ 36) : (80 + 4 * (L : Int)) % 256 = 80 + 4 * (L : Int) := by omega
def lenV : Value → Nat
  | .slice _ n _ => n
  | _ => 0
theorem lenV_row {w : World} {base : Nat} {v : Value} {xs : List Int} (h : Row w base v xs) : lenV v = xs.length := by
  rcases h.2 with ⟨rfl, h2⟩ | ⟨g, cap, cur, rfl, _⟩
  · simp [lenV, h2]
  · rfl
end Go.Proofs.Ytiaejlbkdgcfiaa
