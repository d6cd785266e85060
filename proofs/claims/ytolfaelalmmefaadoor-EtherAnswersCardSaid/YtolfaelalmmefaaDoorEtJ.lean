/-
  Plain facts of frames and messages; parameters that are frames and messages; what must come at any rate.
-/
import Derived.Test.YtolfaelalmmefaaDoorEtI
import Derived.Test.YtolfaelalmmefaaDoorBufW
set_option maxRecDepth 4000
set_option linter.unusedVariables false
set_option linter.unusedSimpArgs false
namespace Go.Proofs.YtolfaelalmmefaaDoor
open Go.RowKit Go.ChangeShapes Go.WideShapes Go.Deep

theorem open_frame {H : Type} {enc : TypeId × Value → H} {w : World} {base : Nat} {spare : Nat → Bool} {held : Bool} {r : Reach} {b0 : Nat} {v : Value} {D : DataW H} {p : List MemPlace} (hv : Value.okWide Tryd.prog w r b0 25 v) (h : DataW.Trod enc Tryd.prog w base spare held 25 v D p) :
    ∃ f : FR, Fr w v f ∧ ((∀ m ∈ D.weights Tryd.prog 25, m ≤ reachBytes) → f.d.length ≤ 140737488355328 ∧ f.s.length ≤ 140737488355328 ∧ f.x.length ≤ 140737488355328) := by
  have hs := Tryd.underlying25
  obtain ⟨⟨l⟩, rfl, hsz⟩ := okWide_struct hs hv
  rw [show Tryd.prog.cellsOf 25 = 4 by kernel_rfl] at hsz
  obtain ⟨fuel, hf⟩ := h
  obtain ⟨xs, n, _, hx, _, hl, hg⟩ := DataW.trod_struct hs hf
  have k0 : Tryd.prog.cellsOf 22 = 1 := by kernel_rfl
  have k1 : Tryd.prog.cellsOf 3 = 1 := by kernel_rfl
  match l, hsz, xs, hl with
  | [c0, c1, c2, c3], _, [y0, y1, y2, y3], _ =>
    have g0 : DataW.trod enc Tryd.prog w base spare held n 22 [c0] = some y0 := by
      have := hg 0 _ rfl
      simpa [Value.cells, k0, k1] using this
    have g1 : DataW.trod enc Tryd.prog w base spare held n 22 [c1] = some y1 := by
      have := hg 1 _ rfl
      simpa [Value.cells, k0, k1] using this
    have g2 : DataW.trod enc Tryd.prog w base spare held n 3 [c2] = some y2 := by
      have := hg 2 _ rfl
      simpa [Value.cells, k0, k1] using this
    have g3 : DataW.trod enc Tryd.prog w base spare held n 22 [c3] = some y3 := by
      have := hg 3 _ rfl
      simpa [Value.cells, k0, k1] using this
    obtain ⟨x0, b0', w0⟩ := buf_of_trod_w Tryd.underlying22 Tryd.underlying5 (by kernel_rfl) g0
    obtain ⟨a0, q0, rfl, _, _⟩ := b0'.shape
    obtain ⟨x1, b1', w1⟩ := buf_of_trod_w Tryd.underlying22 Tryd.underlying5 (by kernel_rfl) g1
    obtain ⟨a1, q1, rfl, _, _⟩ := b1'.shape
    obtain ⟨n2, e2, _, w2⟩ := DataW.trod_int Tryd.underlying3 g2
    obtain rfl : c2 = _ := by simpa using e2
    obtain ⟨x3, b3', w3⟩ := buf_of_trod_w Tryd.underlying22 Tryd.underlying5 (by kernel_rfl) g3
    obtain ⟨a3, q3, rfl, _, _⟩ := b3'.shape
    refine ⟨_, Fr.of b0' b1' b3' (wf_i64 w2), fun hw => ?_⟩
    have hD : D = .agg [y0.1, y1.1, y2.1, y3.1] := by have := congrArg Prod.fst hx; simpa using this
    have hin : ∀ (j : Nat) (t : TypeId) (d : DataW H), [22, 22, 3, 22][j]? = some t → [y0.1, y1.1, y2.1, y3.1][j]? = some d → ∀ m ∈ d.weights Tryd.prog t, m ≤ reachBytes := fun j t d h1 h2 m hm => by
      refine hw m ?_
      rw [hD]
      simp only [DataW.weights, hs]
      exact DataW.weights_mem_each h1 h2 m hm
    have kb : Tryd.prog.bytesOf 5 = 1 := by kernel_rfl
    have r0 := w0 reachBytes (hin 0 _ _ rfl rfl)
    rw [kb] at r0
    have r1 := w1 reachBytes (hin 1 _ _ rfl rfl)
    rw [kb] at r1
    have r3 := w3 reachBytes (hin 3 _ _ rfl rfl)
    rw [kb] at r3
    unfold reachBytes at r0 r1 r3
    exact ⟨by show x0.length ≤ _; omega, by show x1.length ≤ _; omega, by show x3.length ≤ _; omega⟩
theorem open_arp {H : Type} {enc : TypeId × Value → H} {w : World} {base : Nat} {spare : Nat → Bool} {held : Bool} {r : Reach} {b0 : Nat} {v : Value} {D : DataW H} {p : List MemPlace} (hv : Value.okWide Tryd.prog w r b0 34 v) (h : DataW.Trod enc Tryd.prog w base spare held 34 v D p) :
    ∃ f : AR, Ar w v f ∧ ((∀ m ∈ D.weights Tryd.prog 34, m ≤ reachBytes) → f.sm.length ≤ 140737488355328 ∧ f.tm.length ≤ 140737488355328) := by
  have hs := Tryd.underlying34
  obtain ⟨⟨l⟩, rfl, hsz⟩ := okWide_struct hs hv
  rw [show Tryd.prog.cellsOf 34 = 5 by kernel_rfl] at hsz
  obtain ⟨fuel, hf⟩ := h
  obtain ⟨xs, n, _, hx, _, hl, hg⟩ := DataW.trod_struct hs hf
  have k0 : Tryd.prog.cellsOf 3 = 1 := by kernel_rfl
  have k1 : Tryd.prog.cellsOf 22 = 1 := by kernel_rfl
  have k2 : Tryd.prog.cellsOf 32 = 1 := by kernel_rfl
  match l, hsz, xs, hl with
  | [c0, c1, c2, c3, c4], _, [y0, y1, y2, y3, y4], _ =>
    have g0 : DataW.trod enc Tryd.prog w base spare held n 3 [c0] = some y0 := by
      have := hg 0 _ rfl
      simpa [Value.cells, k0, k1, k2] using this
    have g1 : DataW.trod enc Tryd.prog w base spare held n 22 [c1] = some y1 := by
      have := hg 1 _ rfl
      simpa [Value.cells, k0, k1, k2] using this
    have g2 : DataW.trod enc Tryd.prog w base spare held n 32 [c2] = some y2 := by
      have := hg 2 _ rfl
      simpa [Value.cells, k0, k1, k2] using this
    have g3 : DataW.trod enc Tryd.prog w base spare held n 22 [c3] = some y3 := by
      have := hg 3 _ rfl
      simpa [Value.cells, k0, k1, k2] using this
    have g4 : DataW.trod enc Tryd.prog w base spare held n 32 [c4] = some y4 := by
      have := hg 4 _ rfl
      simpa [Value.cells, k0, k1, k2] using this
    obtain ⟨n0, e0, _, w0⟩ := DataW.trod_int Tryd.underlying3 g0
    obtain rfl : c0 = _ := by simpa using e0
    obtain ⟨x1, b1', w1⟩ := buf_of_trod_w Tryd.underlying22 Tryd.underlying5 (by kernel_rfl) g1
    obtain ⟨a1, q1, rfl, _, _⟩ := b1'.shape
    obtain ⟨n2, e2, _, w2⟩ := DataW.trod_int Tryd.underlying32 g2
    obtain rfl : c2 = _ := by simpa using e2
    obtain ⟨x3, b3', w3⟩ := buf_of_trod_w Tryd.underlying22 Tryd.underlying5 (by kernel_rfl) g3
    obtain ⟨a3, q3, rfl, _, _⟩ := b3'.shape
    obtain ⟨n4, e4, _, w4⟩ := DataW.trod_int Tryd.underlying32 g4
    obtain rfl : c4 = _ := by simpa using e4
    refine ⟨_, Ar.of b1' b3' (wf_i64 w0) (wf_u32 w2) (wf_u32 w4), fun hw => ?_⟩
    have hD : D = .agg [y0.1, y1.1, y2.1, y3.1, y4.1] := by have := congrArg Prod.fst hx; simpa using this
    have hin : ∀ (j : Nat) (t : TypeId) (d : DataW H), [3, 22, 32, 22, 32][j]? = some t → [y0.1, y1.1, y2.1, y3.1, y4.1][j]? = some d → ∀ m ∈ d.weights Tryd.prog t, m ≤ reachBytes := fun j t d h1 h2 m hm => by
      refine hw m ?_
      rw [hD]
      simp only [DataW.weights, hs]
      exact DataW.weights_mem_each h1 h2 m hm
    have kb : Tryd.prog.bytesOf 5 = 1 := by kernel_rfl
    have r1 := w1 reachBytes (hin 1 _ _ rfl rfl)
    rw [kb] at r1
    have r3 := w3 reachBytes (hin 3 _ _ rfl rfl)
    rw [kb] at r3
    unfold reachBytes at r1 r3
    exact ⟨by show x1.length ≤ _; omega, by show x3.length ≤ _; omega⟩

/-! ### Plain facts -/
theorem putF_len {f : FR} (h : okF f = true) : (putF f).length = 14 + f.x.length := by
  have hk := of_decide_eq_true h
  unfold putF
  simp only [List.length_append, putB_len]
  omega
/-- What is put is got. -/
theorem getF_putF {f : FR} (h : okF f = true) : getF (putF f) = f ∧ getFE (putF f) = 0 := by
  have hk := of_decide_eq_true h
  have hl := putF_len h
  have h2 := (putB_len f.t 2 true)
  have e : getF (putF f) = frOf (putF f) := by unfold getF; rw [if_neg (by omega)]
  refine ⟨?_, by unfold getFE; rw [if_neg (by omega), if_neg (by omega)]⟩
  rw [e]
  unfold frOf
  rw [hl]
  unfold putF
  rw [cutL_left _ _ 0 6 (by omega), cutL_whole hk.1]
  rw [cutL_right f.d _ 6 12 (by omega), cutL_right f.d _ 12 14 (by omega), cutL_right f.d _ 14 _ (by omega), hk.1]
  rw [cutL_left f.s _ (6 - 6) (12 - 6) (by omega), show cutL f.s (6 - 6) (12 - 6) = f.s from cutL_whole hk.2.1]
  rw [cutL_right f.s _ (12 - 6) (14 - 6) (by omega), cutL_right f.s _ (14 - 6) _ (by omega), hk.2.1]
  rw [cutL_left _ _ (12 - 6 - 6) (14 - 6 - 6) (by rw [h2]; omega), show cutL (putL f.t 2 true) (12 - 6 - 6) (14 - 6 - 6) = putL f.t 2 true from cutL_whole h2]
  rw [cutL_right _ f.x (14 - 6 - 6) _ (by rw [h2]; omega), h2, show cutL f.x (14 - 6 - 6 - 2) (14 + f.x.length - 6 - 6 - 2) = f.x by rw [show 14 + f.x.length - 6 - 6 - 2 = f.x.length by omega]; exact cutL_all _]
  rw [getV_putG_eq (by omega) true hk.2.2.1 (by rw [show (2 : Int) ^ (8 * 2) = 65536 by decide]; omega)]
theorem putA_len {f : AR} (h : okA f = true) : (putA f).length = 28 := by
  have hk := of_decide_eq_true h
  unfold putA
  simp only [List.length_append, putB_len, headL, List.length_cons, List.length_nil]
  omega
theorem putA_cuts {f : AR} (h : okA f = true) (hs : u32I f.si) (ht : u32I f.ti) : cutL (putA f) 0 6 = headL ∧ arOf (putA f) = f := by
  have hk := of_decide_eq_true h
  have h2 := putB_len f.op 2 true
  have h4 := putB_len f.si 4 true
  have h5 := putB_len f.ti 4 true
  have h6 : headL.length = 6 := rfl
  have p2 : (2 : Int) ^ (8 * 2) = 65536 := by decide
  have p4 : (2 : Int) ^ (8 * 4) = 4294967296 := by decide
  refine ⟨by unfold putA; rw [cutL_left _ _ 0 6 (by omega), cutL_whole h6], ?_⟩
  unfold arOf putA
  rw [cutL_right headL _ 6 8 (by omega), cutL_right headL _ 8 14 (by omega), cutL_right headL _ 14 18 (by omega), cutL_right headL _ 18 24 (by omega), cutL_right headL _ 24 28 (by omega), h6]
  simp only [Nat.reduceSub]
  rw [cutL_left (putL f.op 2 true) _ 0 2 (by omega), cutL_whole h2]
  rw [cutL_right (putL f.op 2 true) _ 2 8 (by omega), cutL_right (putL f.op 2 true) _ 8 12 (by omega), cutL_right (putL f.op 2 true) _ 12 18 (by omega), cutL_right (putL f.op 2 true) _ 18 22 (by omega), h2]
  simp only [Nat.reduceSub]
  rw [cutL_left f.sm _ 0 6 (by omega), cutL_whole hk.1]
  rw [cutL_right f.sm _ 6 10 (by omega), cutL_right f.sm _ 10 16 (by omega), cutL_right f.sm _ 16 20 (by omega), hk.1]
  simp only [Nat.reduceSub]
  rw [cutL_left (putL f.si 4 true) _ 0 4 (by omega), cutL_whole h4]
  rw [cutL_right (putL f.si 4 true) _ 4 10 (by omega), cutL_right (putL f.si 4 true) _ 10 14 (by omega), h4]
  simp only [Nat.reduceSub]
  rw [cutL_left f.tm _ 0 6 (by omega), cutL_whole hk.2.1]
  rw [cutL_right f.tm _ 6 10 (by omega), hk.2.1]
  simp only [Nat.reduceSub]
  rw [cutL_whole h5]
  rw [getV_putG_eq (by omega) true (by omega) (by omega), getV_putG_eq (by omega) true hs.1 (by have := hs.2; omega), getV_putG_eq (by omega) true ht.1 (by have := ht.2; omega)]
theorem cutL_more (xs ys : List Int) {lo hi : Nat} (h : hi ≤ xs.length) : cutL (xs ++ ys) lo hi = cutL xs lo hi := cutL_left xs ys lo hi h
theorem arOf_more {xs : List Int} (more : List Int) (h : 28 ≤ xs.length) : arOf (xs ++ more) = arOf xs := by
  unfold arOf
  rw [cutL_more _ more (by omega), cutL_more _ more (by omega), cutL_more _ more (by omega), cutL_more _ more (by omega), cutL_more _ more (by omega)]
theorem getA_putA {f : AR} (h : okA f = true) (hs : u32I f.si) (ht : u32I f.ti) (more : List Int) : getA (putA f ++ more) = f ∧ getAE (putA f ++ more) = 0 := by
  have hk := of_decide_eq_true h
  have hl := putA_len h
  obtain ⟨c1, c2⟩ := putA_cuts h hs ht
  have e : arOf (putA f ++ more) = f := (arOf_more more (by omega)).trans c2
  have hi : isA (putA f ++ more) = true := by
    unfold isA
    rw [e, cutL_more _ more (by omega), c1, decide_eq_true rfl, decide_eq_true hk.2.2]
    rfl
  have hn : ¬ (putA f ++ more).length < 28 := by rw [List.length_append]; omega
  refine ⟨?_, ?_⟩
  · unfold getA; rw [hi, if_neg (by simp; simpa using hn), e]
  · unfold getAE; rw [hi, if_neg hn]; rfl
/-- What is got is put as it was. -/
theorem putF_getF {xs : List Int} (ok : AreBytes xs) (h : getFE xs = 0) : okF (getF xs) = true ∧ putF (getF xs) = xs := by
  have h1 : ¬ xs.length < 14 := by intro hc; unfold getFE at h; rw [if_pos hc] at h; omega
  have h2 : ¬ 1514 < xs.length := by intro hc; unfold getFE at h; rw [if_neg h1, if_pos hc] at h; omega
  have e : getF xs = frOf xs := by unfold getF; rw [if_neg (by omega)]
  have l1 : (cutL xs 0 6).length = 6 := cutL_length (by omega) (by omega)
  have l2 : (cutL xs 6 12).length = 6 := cutL_length (by omega) (by omega)
  have l3 : (cutL xs 12 14).length = 2 := cutL_length (by omega) (by omega)
  have l4 : (cutL xs 14 xs.length).length = xs.length - 14 := cutL_length (by omega) (by omega)
  have hg := getG_lt (ok.cut 12 14) true l3 (by omega)
  have p2 : (2 : Int) ^ (8 * 2) = 65536 := by decide
  have hb := putG_getV (ok.cut 12 14) (by omega) true
  rw [l3] at hb
  rw [e]
  refine ⟨decide_eq_true ⟨l1, l2, hg.1, by show getV _ _ ≤ _; omega, by show (cutL xs 14 xs.length).length ≤ _; omega⟩, ?_⟩
  unfold putF frOf
  simp only
  rw [hb, cutL_join xs (by omega) (by omega), cutL_join xs (by omega) (by omega), cutL_join xs (by omega) (by omega), cutL_all]
theorem putA_getA {xs : List Int} (ok : AreBytes xs) (h : getAE xs = 0) : 28 ≤ xs.length ∧ okA (getA xs) = true ∧ putA (getA xs) = cutL xs 0 28 := by
  have h1 : ¬ xs.length < 28 := by intro hc; unfold getAE at h; rw [if_pos hc] at h; omega
  have h2 : isA xs = true := by
    cases hi : isA xs
    · unfold getAE at h; rw [if_neg h1, hi] at h; simp at h
    · rfl
  have e : getA xs = arOf xs := by unfold getA; rw [h2, if_neg (by simp; omega)]
  have hr := isA_ref ok (by omega)
  rw [h2] at hr
  have hr := (Bool.and_eq_true _ _).mp hr.symm
  rw [e]
  exact ⟨by omega, hr.1, of_decide_eq_true hr.2⟩

/-! ### What must come at any rate -/
def z6 : List Int := [0, 0, 0, 0, 0, 0]
def m6 : List Int := [1, 2, 3, 4, 5, 6]
def hF1 : FR := ⟨z6, z6, 2054, [7]⟩
def hB1 : List Int := [0, 0, 0, 0, 0, 0, 0, 0, 0, 0, 0, 0, 8, 6, 7]
def hB2 : List Int := [0, 0, 0, 0, 0, 0, 0]
def hA1 : AR := ⟨1, z6, 0, z6, 5⟩
def hA2 : AR := ⟨2, m6, 5, z6, 0⟩
def hC1 : List Int := [0, 1, 8, 0, 6, 4, 0, 1, 0, 0, 0, 0, 0, 0, 0, 0, 0, 0, 0, 0, 0, 0, 0, 0, 0, 0, 0, 5]
def hC2 : List Int := [0, 1, 8, 0, 6, 4, 0, 1, 0, 0, 0, 0, 0, 0, 0, 0, 0, 0, 0, 0, 0, 0, 0, 0, 0, 0, 0, 5, 1]
theorem bytes_lit {xs : List Int} (h : (xs.all fun x => decide (0 ≤ x) && decide (x < 256)) = true) : AreBytes xs := fun x hx => by
  have := List.all_eq_true.1 h x hx
  simpa using this
theorem hok1 : okF hF1 = true := by decide +kernel
theorem hok2 : okA hA1 = true := by decide +kernel
theorem hput1 : putF hF1 = hB1 := by decide +kernel
theorem hput2 : putA hA1 = hC1 := by decide +kernel
theorem hget1 : getF hB1 = hF1 ∧ getFE hB1 = 0 := by rw [← hput1]; exact getF_putF hok1
theorem hget2 : getA hC2 = hA1 ∧ getAE hC2 = 0 := by
  have := getA_putA hok2 (by unfold u32I; simp [hA1]) (by unfold u32I; simp [hA1]) [1]
  rwa [hput2] at this
theorem hd_put {v : Value} {w : World} (hv : Fr w v hF1) : Calls Tryd.prog 10 #[v] w fun e w' => ∃ p k, e = .returned (.tuple #[.slice p 15 k, .int .i64 0]) ∧ Buf w' (.slice p 15 k) hB1 ∧ Grew w w' := by
  refine (Put_c hv).mono ?_
  rintro e w' ⟨u, rfl, hb, g⟩
  rw [show putFB hF1 = hB1 by unfold putFB; rw [hok1, if_pos rfl, hput1]] at hb
  obtain ⟨p, k, rfl, _, _⟩ := hb.shape
  exact ⟨p, k, by unfold putFE; rw [hok1]; rfl, hb, g⟩
theorem hd_get {v : Value} {w : World} {a0 a1 a2 : Addr} (sn : Sen w a0 a1 a2) (hv : Buf w v hB1) : Calls Tryd.prog 9 #[v] w fun e w' => ∃ p1 k1 p2 k2 p3 k3, e = .returned (.tuple #[.agg #[.slice p1 6 k1, .slice p2 6 k2, .int .i64 2054, .slice p3 1 k3], .int .i64 0]) ∧ Grew w w' := by
  refine (Get_c sn hv).mono ?_
  rintro e w' ⟨u, rfl, hb, g⟩
  rw [hget1.1] at hb
  rw [hget1.2]
  obtain ⟨p1, k1, p2, k2, p3, k3, rfl, _, _, _⟩ := hb.shape
  exact ⟨p1, k1, p2, k2, p3, k3, rfl, g⟩
theorem hd_short {v : Value} {w : World} {a0 a1 a2 : Addr} (sn : Sen w a0 a1 a2) (hv : Buf w v hB2) : Calls Tryd.prog 9 #[v] w fun e w' => ∃ p1 k1 p2 k2 p3 k3, e = .returned (.tuple #[.agg #[.slice p1 0 k1, .slice p2 0 k2, .int .i64 0, .slice p3 0 k3], .int .i64 160]) ∧ Grew w w' := by
  refine (Get_c sn hv).mono ?_
  rintro e w' ⟨u, rfl, hb, g⟩
  rw [show getF hB2 = zF from rfl] at hb
  rw [show getFE hB2 = 160 from rfl]
  obtain ⟨p1, k1, p2, k2, p3, k3, rfl, _, _, _⟩ := hb.shape
  exact ⟨p1, k1, p2, k2, p3, k3, rfl, g⟩
theorem hd_putA {v : Value} {w : World} (hv : Ar w v hA1) : Calls Tryd.prog 13 #[v] w fun e w' => ∃ p k, e = .returned (.tuple #[.slice p 28 k, .int .i64 0]) ∧ Buf w' (.slice p 28 k) hC1 ∧ Grew w w' := by
  refine (PutArp_c hv).mono ?_
  rintro e w' ⟨u, rfl, hb, g⟩
  rw [show putAB hA1 = hC1 by unfold putAB; rw [hok2, if_pos rfl, hput2]] at hb
  obtain ⟨p, k, rfl, _, _⟩ := hb.shape
  exact ⟨p, k, by unfold putAE; rw [hok2]; rfl, hb, g⟩
theorem hd_getA {v : Value} {w : World} {a0 a1 a2 : Addr} (sn : Sen w a0 a1 a2) (hv : Buf w v hC2) : Calls Tryd.prog 12 #[v] w fun e w' => ∃ p1 k1 p2 k2, e = .returned (.tuple #[.agg #[.int .i64 1, .slice p1 6 k1, .int .u32 0, .slice p2 6 k2, .int .u32 5], .int .i64 0]) ∧ Ar w' (.agg #[.int .i64 1, .slice p1 6 k1, .int .u32 0, .slice p2 6 k2, .int .u32 5]) hA1 ∧ Grew w w' := by
  refine (GetArp_c sn hv).mono ?_
  rintro e w' ⟨u, rfl, hb, g⟩
  rw [hget2.1] at hb
  rw [hget2.2]
  have hb' := hb
  obtain ⟨p1, k1, p2, k2, rfl, _, _⟩ := hb'.shape
  exact ⟨p1, k1, p2, k2, rfl, hb, g⟩
theorem hd_ans {v u : Value} {w : World} (hv : Ar w v hA1) (hu : Buf w u m6) : Calls Tryd.prog 19 #[v, u, .int .u32 5] w fun e w' => ∃ p1 k1 p2 k2, e = .returned (.tuple #[.agg #[.int .i64 2, .slice p1 6 k1, .int .u32 5, .slice p2 6 k2, .int .u32 0], .bool true]) ∧ Ar w' (.agg #[.int .i64 2, .slice p1 6 k1, .int .u32 5, .slice p2 6 k2, .int .u32 0]) hA2 ∧ Grew w w' := by
  refine (Answer_c (by unfold u32I; omega) (by decide) (by decide) hv hu).mono ?_
  rintro e w' ⟨x, rfl, hb, g⟩
  rw [show ansA hA1 m6 5 = hA2 from rfl] at hb
  rw [show asks hA1 m6 5 = true from rfl]
  have hb' := hb
  obtain ⟨p1, k1, p2, k2, rfl, _, _⟩ := hb'.shape
  exact ⟨p1, k1, p2, k2, rfl, hb, g⟩
theorem hd_no {v u : Value} {w : World} (hv : Ar w v hA2) (hu : Buf w u z6) : Calls Tryd.prog 19 #[v, u, .int .u32 0] w fun e w' => ∃ p1 k1 p2 k2, e = .returned (.tuple #[.agg #[.int .i64 0, .slice p1 0 k1, .int .u32 0, .slice p2 0 k2, .int .u32 0], .bool false]) ∧ Grew w w' := by
  refine (Answer_c (by unfold u32I; omega) (by decide) (by decide) hv hu).mono ?_
  rintro e w' ⟨x, rfl, hb, g⟩
  rw [show ansA hA2 z6 0 = zA from rfl] at hb
  rw [show asks hA2 z6 0 = false from rfl]
  obtain ⟨p1, k1, p2, k2, rfl, _, _⟩ := hb.shape
  exact ⟨p1, k1, p2, k2, rfl, g⟩
end Go.Proofs.YtolfaelalmmefaaDoor
