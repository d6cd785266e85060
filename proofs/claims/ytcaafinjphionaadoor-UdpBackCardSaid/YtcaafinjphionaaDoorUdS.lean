/-
  The document's Get of all bytes; its Same of two datagrams that read alike; a datagram that comes in.
-/
import Derived.Test.YtcaafinjphionaaDoorUdG
import Derived.Test.YtcaafinjphionaaDoorUdP
import Derived.Test.YtcaafinjphionaaDoorBufW
set_option maxRecDepth 4000
set_option linter.unusedVariables false
set_option linter.unusedSimpArgs false
namespace Go.Proofs.YtcaafinjphionaaDoor
open Go.RowKit Go.ChangeShapes Go.WideShapes

theorem refGet18_c {v : Value} {xs : List Int} (src dst : Int) (hs : 0 ≤ src ∧ src < 4294967296) (hd : 0 ≤ dst ∧ dst < 4294967296) {w : World} (hb : Buf w v xs) :
    Calls Tryd.prog 10 #[v, .int .u32 src, .int .u32 dst] w fun e w' => ∃ u, e = .returned (.tuple #[u, .int .i64 (getUE xs src dst)]) ∧ Ud w' u (getU xs src dst) ∧ Grew w w' := by
  obtain ⟨a, c, rfl, _, _⟩ := hb.shape
  have zero : ∀ {k : Int}, getUE xs src dst = k → k ≠ 0 → (Calls Tryd.prog 10 #[.slice a xs.length c, .int .u32 src, .int .u32 dst] w fun e w' => ∃ u, e = .returned (.tuple #[u, .int .i64 k]) ∧ Ud w' u zU ∧ Grew w w') → Calls Tryd.prog 10 #[.slice a xs.length c, .int .u32 src, .int .u32 dst] w fun e w' => ∃ u, e = .returned (.tuple #[u, .int .i64 (getUE xs src dst)]) ∧ Ud w' u (getU xs src dst) ∧ Grew w w' := fun hk h0 h => by
    unfold getU
    rw [hk, if_neg h0]
    exact h
  have yes : getUE xs src dst = 0 → (Calls Tryd.prog 10 #[.slice a xs.length c, .int .u32 src, .int .u32 dst] w fun e w' => ∃ u, e = .returned (.tuple #[u, .int .i64 0]) ∧ Ud w' u (udOf xs) ∧ Grew w w') → Calls Tryd.prog 10 #[.slice a xs.length c, .int .u32 src, .int .u32 dst] w fun e w' => ∃ u, e = .returned (.tuple #[u, .int .i64 (getUE xs src dst)]) ∧ Ud w' u (getU xs src dst) ∧ Grew w w' := fun hk h => by
    unfold getU
    rw [hk, if_pos rfl]
    exact h
  by_cases h0 : xs.length < 8
  · exact zero (k := 160) (by unfold getUE; rw [if_pos h0]) (by omega) (refGetU_short a _ c src dst (by omega) w)
  · have hn : ¬ ((xs.length : Int) < 8) := by omega
    by_cases h1 : nU xs < 8
    · exact zero (k := 161) (by unfold getUE; rw [if_neg h0, if_pos h1]) (by omega) (refGetU_1 a _ c xs src dst hs hd hn hb h1)
    · by_cases h2 : xs.length < nU xs
      · exact zero (k := 160) (by unfold getUE; rw [if_neg h0, if_neg h1, if_pos h2]) (by omega) (refGetU_2 a _ c xs src dst hs hd hn hb h1 h2)
      · have good : (summedU xs = true → sumV (psU src dst (nU xs) ++ cutL xs 0 (nU xs)) = 0) → getUE xs src dst = 0 := fun h => by
          unfold getUE
          rw [if_neg h0, if_neg h1, if_neg h2, if_neg (fun hh => hh.2 (h hh.1))]
        have bad : summedU xs = true → ¬ sumV (psU src dst (nU xs) ++ cutL xs 0 (nU xs)) = 0 → getUE xs src dst = 162 := fun h h' => by
          unfold getUE
          rw [if_neg h0, if_neg h1, if_neg h2, if_pos ⟨h, h'⟩]
        cases h6 : (xs.getD 6 0 != 0)
        · cases h7 : (xs.getD 7 0 != 0)
          · have hz : summedU xs = false := by unfold summedU; rw [h6, h7]; rfl
            exact yes (good fun h => by rw [hz] at h; simp at h) (refGetU_cy a _ c xs src dst hs hd hn hb h1 h2 h6 h7)
          · have hz : summedU xs = true := by unfold summedU; rw [h6, h7]; rfl
            by_cases hm : sumV (psU src dst (nU xs) ++ cutL xs 0 (nU xs)) = 0
            · exact yes (good fun _ => hm) (refGetU_by a _ c xs src dst hs hd hn hb h1 h2 h6 h7 hm)
            · exact zero (bad hz hm) (by omega) (refGetU_bn a _ c xs src dst hs hd hn hb h1 h2 h6 h7 hm)
        · have hz : summedU xs = true := by unfold summedU; rw [h6]; rfl
          by_cases hm : sumV (psU src dst (nU xs) ++ cutL xs 0 (nU xs)) = 0
          · exact yes (good fun _ => hm) (refGetU_ay a _ c xs src dst hs hd hn hb h1 h2 h6 hm)
          · exact zero (bad hz hm) (by omega) (refGetU_an a _ c xs src dst hs hd hn hb h1 h2 h6 hm)
theorem same18_c {f : UD} {sp1 : Option Addr} {sk1 : Nat} {tp1 : Option Addr} {tk1 : Nat} {w : World} (h1 : Buf w (.slice sp1 f.x.length sk1) f.x) (h2 : Buf w (.slice tp1 f.x.length tk1) f.x) :
    Calls Tryd.prog 12 #[.agg #[.int .i64 f.s, .int .i64 f.d, .slice sp1 f.x.length sk1], .agg #[.int .i64 f.s, .int .i64 f.d, .slice tp1 f.x.length tk1]] w fun e w' => e = .returned (.bool true) ∧ Grew w w' := by
  have H1 := Lib.hid h1
  have H2 := Lib.hid h2
  clear h1 h2
  go_enter Tryd.func12, Tryd.ntmps12
  go_upto_region 1 with fail
  have hA : Blk ((w.alloc (.cells #[.int .i64 f.s, .int .i64 f.d, .slice sp1 f.x.length sk1] 24)).alloc (.cells #[.int .i64 f.s, .int .i64 f.d, .slice tp1 f.x.length tk1] 24)) w.heap.size #[.int .i64 f.s, .int .i64 f.d, .slice sp1 f.x.length sk1] 24 := (Blk.new _ _ _ _ rfl).alloc _
  have hB : Blk ((w.alloc (.cells #[.int .i64 f.s, .int .i64 f.d, .slice sp1 f.x.length sk1] 24)).alloc (.cells #[.int .i64 f.s, .int .i64 f.d, .slice tp1 f.x.length tk1] 24)) (w.heap.size + 1) #[.int .i64 f.s, .int .i64 f.d, .slice tp1 f.x.length tk1] 24 := Blk.new _ _ _ _ (by simp)
  have g0 : Grew w ((w.alloc (.cells #[.int .i64 f.s, .int .i64 f.d, .slice sp1 f.x.length sk1] 24)).alloc (.cells #[.int .i64 f.s, .int .i64 f.d, .slice tp1 f.x.length tk1] 24)) := ((Grew.refl _).alloc _).alloc _
  generalize ((w.alloc (.cells #[.int .i64 f.s, .int .i64 f.d, .slice sp1 f.x.length sk1] 24)).alloc (.cells #[.int .i64 f.s, .int .i64 f.d, .slice tp1 f.x.length tk1] 24)) = w0 at *
  generalize w.heap.size + 1 = B at *
  generalize w.heap.size = A at *
  have c1 := convert_bytes (H1.out.grew g0).bytes
  have c2 := convert_bytes (H2.out.grew g0).bytes
  have y0 := hA.cell 0
  have y1 := hA.cell 1
  have y2 := hA.cell 2
  have z0 := hB.cell 0
  have z1 := hB.cell 1
  have z2 := hB.cell 2
  go_wp2_with fail
  go_ret
  exact ⟨rfl, g0⟩
theorem open_udp {H : Type} {enc : TypeId × Value → H} {w : World} {base : Nat} {spare : Nat → Bool} {held : Bool} {r : Reach} {b0 : Nat} {v : Value} {D : DataW H} {p : List MemPlace} (hv : Value.okWide Tryd.prog w r b0 24 v) (h : DataW.Trod enc Tryd.prog w base spare held 24 v D p) :
    ∃ f : UD, Ud w v f ∧ ((∀ m ∈ D.weights Tryd.prog 24, m ≤ reachBytes) → f.x.length ≤ 140737488355328) := by
  have hs := Tryd.underlying24
  obtain ⟨⟨l⟩, rfl, hsz⟩ := okWide_struct hs hv
  rw [show Tryd.prog.cellsOf 24 = 3 by kernel_rfl] at hsz
  obtain ⟨fuel, hf⟩ := h
  obtain ⟨xs, n, _, hx, _, hl, hg⟩ := DataW.trod_struct hs hf
  have k0 : Tryd.prog.cellsOf 3 = 1 := by kernel_rfl
  have k1 : Tryd.prog.cellsOf 22 = 1 := by kernel_rfl
  match l, hsz, xs, hl with
  | [c0, c1, c2], _, [y0, y1, y2], _ =>
    have g0 : DataW.trod enc Tryd.prog w base spare held n 3 [c0] = some y0 := by
      have := hg 0 _ rfl
      simpa [Value.cells, k0, k1] using this
    have g1 : DataW.trod enc Tryd.prog w base spare held n 3 [c1] = some y1 := by
      have := hg 1 _ rfl
      simpa [Value.cells, k0, k1] using this
    have g2 : DataW.trod enc Tryd.prog w base spare held n 22 [c2] = some y2 := by
      have := hg 2 _ rfl
      simpa [Value.cells, k0, k1] using this
    obtain ⟨n0, e0, _, w0⟩ := DataW.trod_int Tryd.underlying3 g0
    obtain rfl : c0 = _ := by simpa using e0
    obtain ⟨n1, e1, _, w1⟩ := DataW.trod_int Tryd.underlying3 g1
    obtain rfl : c1 = _ := by simpa using e1
    obtain ⟨x2, b2', w2⟩ := buf_of_trod_w Tryd.underlying22 Tryd.underlying5 (by kernel_rfl) g2
    obtain ⟨a2, q2, rfl, _, _⟩ := b2'.shape
    refine ⟨_, Ud.of b2' (wf_i64 w0) (wf_i64 w1), fun hw => ?_⟩
    have hD : D = .agg [y0.1, y1.1, y2.1] := by have := congrArg Prod.fst hx; simpa using this
    have hin : ∀ (j : Nat) (t : TypeId) (d : DataW H), [3, 3, 22][j]? = some t → [y0.1, y1.1, y2.1][j]? = some d → ∀ m ∈ d.weights Tryd.prog t, m ≤ reachBytes := fun j t d h1 h2 m hm => by
      refine hw m ?_
      rw [hD]
      simp only [DataW.weights, hs]
      exact DataW.weights_mem_each h1 h2 m hm
    have kb : Tryd.prog.bytesOf 5 = 1 := by kernel_rfl
    have r2 := w2 reachBytes (hin 2 _ _ rfl rfl)
    rw [kb] at r2
    unfold reachBytes at r2
    exact (by show x2.length ≤ _; omega)
end Go.Proofs.YtcaafinjphionaaDoor
