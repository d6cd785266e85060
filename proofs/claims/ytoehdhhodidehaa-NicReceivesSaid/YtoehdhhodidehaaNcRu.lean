/-
  The document's own Send of every controller; memory of one's own, as the laws make it.
-/
import Derived.Test.YtoehdhhodidehaaNcRt
set_option maxRecDepth 4000
set_option linter.unusedVariables false
set_option linter.unusedSimpArgs false
namespace Go.Proofs.Ytoehdhhodidehaa
open Go.RowKit

theorem rSend_c {c : Nat → Int} {m : List Int} {a1 : Option Addr} {j : Nat} {a : Option Addr} {n k : Nat} {xs : List Int} {w : World} (hm : MacOf c m) (hN : Buf w (.slice a1 m.length j) m) (hM : Buf w (.slice a n k) xs) (hl : xs.length ≤ 140737488355328) : Calls Try.prog 24 #[ncV c (.slice a1 m.length j), .agg #[.slice a n k]] w fun e w' => ∃ a1 k1 a2 n2 k2 a3 n3 k3, e = .returned (.tuple #[ncV (sendS c m.length xs).c (.slice a1 m.length k1), .agg #[.slice a2 n2 k2], .slice a3 n3 k3, .bool (sendS c m.length xs).b]) ∧ Hid (Buf w' (.slice a1 m.length k1) m) ∧ Hid (Buf w' (.slice a2 n2 k2) (sendS c m.length xs).xs) ∧ Hid (Buf w' (.slice a3 n3 k3) (sendS c m.length xs).f) ∧ Grew w w' := by
  unfold sendS
  cases hb : chkB c m.length
  · exact rSend_no hN hM hl hb
  · obtain ⟨hc, hi⟩ := chk_ok hm hN.ok hb
    have h6 := hi.1
    rw [h6, if_pos rfl]
    unfold sendR
    cases hw : waitst c
    · have := rSend_idle hN hM hl h6 hc hw
      exact this
    cases hin : insideV xs.length (atT c) 16
    · have := rSend_broke hN hM hl h6 hc hw hin
      exact this
    cases ho : ownB (bytesV xs (atT c) 16)
    · have := rSend_other hN hM hl h6 hc hw hin ho
      exact this
    cases hf : (insideV xs.length (adrV (bytesV xs (atT c) 16)) (lenV (bytesV xs (atT c) 16)) && frameB (lenV (bytesV xs (atT c) 16)))
    · have := rSend_bad hN hM hl h6 hc hw hin ho hf
      exact this
    · have := rSend_good hN hM hl h6 hc hw hin ho hf
      exact this
theorem lw_rm {ops : Array Oper} {rest : List Oper} {o : Oper} {a : Act} {w : World} {Q : Exit → Act → World → Prop} (hw : Region.wanted o (yielded ops a.tmps) = true) (x : Operand) (ho : o.op = .load 27 x) (d : Option Tmp) (hd : o.dst = d) {g : Nat} {u : Value} {T : TypeId}
    (k : Blk w g #[u] T) (hx : a.eval x = .pointer (some ⟨g, 0, none⟩)) (h : wpList Try.prog ops Q rest (a.put d (.agg #[u])) w) : wpList Try.prog ops Q (o :: rest) a w := by
  subst hd
  exact BigFrame.wpList_want hw fun K hK => wp_load_row _ x ho g hx T #[u] (0, 0) _ k Try.underlying27 rfl rmInfo (hK _ _ h)
set_option maxHeartbeats 2000000 in
theorem lawOwn_c {a : Option Addr} {n k : Nat} {xs : List Int} (hl : xs.length ≤ 140737488355328) {w : World} (hb : Buf w (.slice a n k) xs) : Calls Try.prog 23 #[.agg #[.slice a n k]] w fun e w' => ∃ b i, e = .returned (.agg #[.slice b xs.length i]) ∧ Hid (Buf w' (.slice b xs.length i) xs) ∧ Grew w w' := by
  have HB := Lib.hid hb
  have HL := Lib.hid hl
  clear hb hl
  go_enter Try.func23, Try.ntmps23
  go_upto_region 1 with fail
  have kM : Blk ((w.alloc (.cells #[.slice a n k] 27)).alloc (.cells #[.slice none 0 0] 27)) w.heap.size #[.slice a n k] 27 := (Blk.new _ _ _ _ rfl).alloc _
  have kR : Blk ((w.alloc (.cells #[.slice a n k] 27)).alloc (.cells #[.slice none 0 0] 27)) (w.heap.size + 1) #[.slice none 0 0] 27 := Blk.new _ _ _ _ (by simp)
  have g0 : Grew w ((w.alloc (.cells #[.slice a n k] 27)).alloc (.cells #[.slice none 0 0] 27)) := ((Grew.refl w).alloc _).alloc _
  generalize ((w.alloc (.cells #[.slice a n k] 27)).alloc (.cells #[.slice none 0 0] 27)) = w0 at *
  have lR : w.heap.size ≤ w.heap.size + 1 := Nat.le_succ _
  generalize w.heap.size + 1 = R at *
  generalize hZ : w.heap.size = M at *
  have HZ := Lib.hid hZ
  clear hZ
  have LR : Hid (w.heap.size ≤ R) := Lib.hid (by rw [HZ.out]; exact lR)
  clear lR
  have y : (w0.alloc (.cells #[] 5)).cell? ⟨M, 0, none⟩ = some (.slice a n k) := (kM.alloc _).cell 0
  go_wp2_with (first | (refine wpList_append_b (W := w0) rfl (.tmp 3) (.tmp 5) rfl (by exact (Grew.refl w0).alloc _) (Row.lit w0 w0.heap.size (Nat.le_refl _) #[] [] rfl (Nat.zero_le _) _ rfl 0 rfl) ((HB.out.grew g0).grew ((Grew.refl w0).alloc _)) (by rfl) (by rfl) (by simpa using HL.out) ?_; intro v1 w1 HR1 g1 q1; clear q1; have HB1 := Lib.hid (HR1.out.buf HB.out.ok); obtain ⟨ao, co, eo, _, _⟩ := HB1.out.shape; subst eo; have kR1 := kR.grew g1) | (refine st_rm rfl (.tmp 2) (.tmp 7) rfl rfl kR1 rfl (by rfl) (by rfl) ⟨_, _, _, rfl⟩ ?_; intro w2 kR2 o2))
  have g2 := o2.grew (g0.trans g1) LR.out
  exact bodyPost_ret (v := .agg #[.slice ao xs.length co]) (results_m1 Try.results23 _ _ R kR2 rfl) rfl ⟨ao, co, rfl, Lib.hid (HB1.out.only o2 kR1 (nb_one _ (fun x h => by cases h))), g2⟩
end Go.Proofs.Ytoehdhhodidehaa
