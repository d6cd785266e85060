/-
  Lines compared (the document's Same), a parameter that is a line, opened; what must come at any rate ('heads' of the statements about package uart).
-/
import Derived.Test.YtegncliegmknaaaUaE
import Derived.Test.YtegncliegmknaaaLaw
import Derived.Deep.Fields
import Derived.ChangeArms
import Derived.Lib.SlBytesConst
set_option linter.unusedVariables false
set_option linter.unusedSimpArgs false
namespace Go.Proofs.Ytegncliegmknaaa
open Go.RowKit

set_option maxHeartbeats 1000000 in
theorem Same_c {s : US} {v u : Value} {w : World} (hv : Ua w v s) (hu : Ua w u s) : Calls Try.prog 9 #[v, u] w fun e w' => e = .returned (.bool true) ∧ Grew w w' := by
  obtain ⟨a1, a2, a3, a4, rfl⟩ := hv.shaped
  obtain ⟨b1, b2, b3, b4, rfl⟩ := hu.shaped
  have HV := Lib.hid hv
  have HU := Lib.hid hu
  clear hv hu
  go_enter Try.func9, Try.ntmps9
  go_upto_region 1 with fail
  have hA : Blk ((w.alloc (.cells #[.slice a1 s.i.length a2, .slice a3 s.o.length a4, .int .i64 s.ie, .int .i64 s.lost] 26)).alloc (.cells #[.slice b1 s.i.length b2, .slice b3 s.o.length b4, .int .i64 s.ie, .int .i64 s.lost] 26)) w.heap.size #[.slice a1 s.i.length a2, .slice a3 s.o.length a4, .int .i64 s.ie, .int .i64 s.lost] 26 := (Blk.new _ _ _ _ rfl).alloc _
  have hB : Blk ((w.alloc (.cells #[.slice a1 s.i.length a2, .slice a3 s.o.length a4, .int .i64 s.ie, .int .i64 s.lost] 26)).alloc (.cells #[.slice b1 s.i.length b2, .slice b3 s.o.length b4, .int .i64 s.ie, .int .i64 s.lost] 26)) (w.heap.size + 1) #[.slice b1 s.i.length b2, .slice b3 s.o.length b4, .int .i64 s.ie, .int .i64 s.lost] 26 := Blk.new _ _ _ _ (by simp)
  have g0 : Grew w ((w.alloc (.cells #[.slice a1 s.i.length a2, .slice a3 s.o.length a4, .int .i64 s.ie, .int .i64 s.lost] 26)).alloc (.cells #[.slice b1 s.i.length b2, .slice b3 s.o.length b4, .int .i64 s.ie, .int .i64 s.lost] 26)) := ((Grew.refl w).alloc _).alloc _
  generalize ((w.alloc (.cells #[.slice a1 s.i.length a2, .slice a3 s.o.length a4, .int .i64 s.ie, .int .i64 s.lost] 26)).alloc (.cells #[.slice b1 s.i.length b2, .slice b3 s.o.length b4, .int .i64 s.ie, .int .i64 s.lost] 26)) = w0 at *
  generalize w.heap.size + 1 = B at *
  generalize w.heap.size = A at *
  have y0 := hA.cell 0
  have y1 := hA.cell 1
  have y2 := hA.cell 2
  have y3 := hA.cell 3
  have z0 := hB.cell 0
  have z1 := hB.cell 1
  have z2 := hB.cell 2
  have z3 := hB.cell 3
  have e1 := convert_bytes (HV.out.grew g0).i.bytes
  have e2 := convert_bytes (HV.out.grew g0).o.bytes
  have e3 := convert_bytes (HU.out.grew g0).i.bytes
  have e4 := convert_bytes (HU.out.grew g0).o.bytes
  clear hA hB
  go_wp2_with fail
  go_ret
  exact ⟨rfl, g0⟩

section
open Go.ChangeShapes Go.WideShapes Go.Deep
variable {H : Type} {enc : TypeId × Value → H} {w : World} {base : Nat} {spare : Nat → Bool} {held : Bool}
theorem open_uart {r : Reach} {b0 : Nat} {v : Value} {D : DataW H} {p : List MemPlace} (hv : Value.okWide Try.prog w r b0 26 v) (h : DataW.Trod enc Try.prog w base spare held 26 v D p) :
    ∃ (s : US) (a1 : Option Addr) (c1 : Nat) (a2 : Option Addr) (c2 : Nat), v = uaV s a1 c1 a2 c2 ∧ Ua w (uaV s a1 c1 a2 c2) s := by
  have hs := Try.underlying26
  obtain ⟨⟨l⟩, rfl, hsz⟩ := okWide_struct hs hv
  rw [show Try.prog.cellsOf 26 = 4 by kernel_rfl] at hsz
  obtain ⟨fuel, hf⟩ := h
  obtain ⟨xs, n, _, hx, _, hl, hg⟩ := DataW.trod_struct hs hf
  have k0 : Try.prog.cellsOf 24 = 1 := by kernel_rfl
  have k1 : Try.prog.cellsOf 3 = 1 := by kernel_rfl
  match l, hsz, xs, hl with
  | [c0, c1, c2, c3], _, [y0, y1, y2, y3], _ =>
    have g0 : DataW.trod enc Try.prog w base spare held n 24 [c0] = some y0 := by
      have := hg 0 _ rfl
      simpa [Value.cells, k0, k1] using this
    have g1 : DataW.trod enc Try.prog w base spare held n 24 [c1] = some y1 := by
      have := hg 1 _ rfl
      simpa [Value.cells, k0, k1] using this
    have g2 : DataW.trod enc Try.prog w base spare held n 3 [c2] = some y2 := by
      have := hg 2 _ rfl
      simpa [Value.cells, k0, k1] using this
    have g3 : DataW.trod enc Try.prog w base spare held n 3 [c3] = some y3 := by
      have := hg 3 _ rfl
      simpa [Value.cells, k0, k1] using this
    obtain ⟨x0, b0'⟩ := buf_of_trod Try.underlying24 Try.underlying5 (by kernel_rfl) g0
    obtain ⟨x1, b1'⟩ := buf_of_trod Try.underlying24 Try.underlying5 (by kernel_rfl) g1
    obtain ⟨N, e2, _, wN⟩ := DataW.trod_int Try.underlying3 g2
    obtain ⟨K, e3, _, wK⟩ := DataW.trod_int Try.underlying3 g3
    obtain rfl : c2 = _ := by simpa using e2
    obtain rfl : c3 = _ := by simpa using e3
    obtain ⟨a0, q0, rfl, _, _⟩ := b0'.shape
    obtain ⟨a1, q1, rfl, _, _⟩ := b1'.shape
    exact ⟨⟨x0, x1, N, K⟩, a0, q0, a1, q1, rfl, ⟨⟨_, _, rfl, b0', b1'⟩, wf_i64 wN, wf_i64 wK⟩⟩
end
def hU0 : US := ⟨[], [], 0, 0⟩
def hU1 : US := ⟨[104, 105], [], 0, 0⟩
def hU2 : US := ⟨[105], [], 0, 0⟩
def hU4 : US := ⟨[], [65], 0, 0⟩
theorem hd_1 {v : Value} {w : World} (hb : Ua w v hU0) {u : Value} (hu : Buf w u [104, 105]) : Calls Try.prog 7 #[v, u] w fun e w' => ∃ b1 b2 b3 b4, e = .returned (.agg #[.slice b1 2 b2, .slice b3 0 b4, .int .i64 0, .int .i64 0]) ∧ Hid (Uar w' w.heap.size (.agg #[.slice b1 2 b2, .slice b3 0 b4, .int .i64 0, .int .i64 0]) hU1) ∧ Grew w w' := by
  refine (type_c (s := hU0) (by decide) (by decide) (ys := [104, 105]) (by decide) hb hu).mono ?_
  rintro e w' ⟨b1, b2, b3, b4, rfl, H, g⟩
  rw [show tyS hU0 [104, 105] = hU1 by kernel_rfl] at H ⊢
  exact ⟨b1, b2, b3, b4, rfl, H, g⟩
theorem hd_2 {v : Value} {w : World} (hb : Ua w v hU1) : Calls Try.prog 8 #[v, .int .u64 0, .int .i64 1] w fun e w' => ∃ b1 b2 b3 b4, e = .returned (.tuple #[.int .u64 104, .agg #[.slice b1 1 b2, .slice b3 0 b4, .int .i64 0, .int .i64 0], .bool true]) ∧ Hid (Uar w' w.heap.size (.agg #[.slice b1 1 b2, .slice b3 0 b4, .int .i64 0, .int .i64 0]) hU2) ∧ Grew w w' := by
  refine (load_c (s := hU1) (by decide) (by decide) 0 1 hb).mono ?_
  rintro e w' ⟨b1, b2, b3, b4, rfl, H, g⟩
  rw [show ldS hU1 0 1 = hU2 by kernel_rfl] at H ⊢
  rw [show badU 0 1 = false by kernel_rfl, show ldY hU1 0 1 = 104 by kernel_rfl]
  exact ⟨b1, b2, b3, b4, rfl, H, g⟩
theorem hd_3 {v : Value} {w : World} (hb : Ua w v hU2) : Calls Try.prog 8 #[v, .int .u64 0, .int .i64 1] w fun e w' => ∃ b1 b2 b3 b4, e = .returned (.tuple #[.int .u64 105, .agg #[.slice b1 0 b2, .slice b3 0 b4, .int .i64 0, .int .i64 0], .bool true]) ∧ Hid (Uar w' w.heap.size (.agg #[.slice b1 0 b2, .slice b3 0 b4, .int .i64 0, .int .i64 0]) hU0) ∧ Grew w w' := by
  refine (load_c (s := hU2) (by decide) (by decide) 0 1 hb).mono ?_
  rintro e w' ⟨b1, b2, b3, b4, rfl, H, g⟩
  rw [show ldS hU2 0 1 = hU0 by kernel_rfl] at H ⊢
  rw [show badU 0 1 = false by kernel_rfl, show ldY hU2 0 1 = 105 by kernel_rfl]
  exact ⟨b1, b2, b3, b4, rfl, H, g⟩
theorem hd_4 {v : Value} {w : World} (hb : Ua w v hU0) : Calls Try.prog 8 #[v, .int .u64 5, .int .i64 1] w fun e w' => ∃ b1 b2 b3 b4, e = .returned (.tuple #[.int .u64 96, .agg #[.slice b1 0 b2, .slice b3 0 b4, .int .i64 0, .int .i64 0], .bool true]) ∧ Hid (Uar w' w.heap.size (.agg #[.slice b1 0 b2, .slice b3 0 b4, .int .i64 0, .int .i64 0]) hU0) ∧ Grew w w' := by
  refine (load_c (s := hU0) (by decide) (by decide) 5 1 hb).mono ?_
  rintro e w' ⟨b1, b2, b3, b4, rfl, H, g⟩
  rw [show ldS hU0 5 1 = hU0 by kernel_rfl] at H ⊢
  rw [show badU 5 1 = false by kernel_rfl, show ldY hU0 5 1 = 96 by kernel_rfl]
  exact ⟨b1, b2, b3, b4, rfl, H, g⟩
theorem hd_5 {v : Value} {w : World} (hb : Ua w v hU0) : Calls Try.prog 10 #[v, .int .u64 0, .int .i64 1, .int .u64 321] w fun e w' => ∃ b1 b2 b3 b4, e = .returned (.tuple #[.agg #[.slice b1 0 b2, .slice b3 1 b4, .int .i64 0, .int .i64 0], .bool true]) ∧ Hid (Uar w' w.heap.size (.agg #[.slice b1 0 b2, .slice b3 1 b4, .int .i64 0, .int .i64 0]) hU4) ∧ Grew w w' := by
  refine (store_c (s := hU0) (by decide) (by decide) 0 1 321 (by decide) hb).mono ?_
  rintro e w' ⟨b1, b2, b3, b4, rfl, H, g⟩
  rw [show stS hU0 0 1 321 = hU4 by kernel_rfl] at H ⊢
  rw [show badU 0 1 = false by kernel_rfl]
  exact ⟨b1, b2, b3, b4, rfl, H, g⟩
theorem hd_6 {v : Value} {w : World} (hb : Ua w v hU0) : Calls Try.prog 10 #[v, .int .u64 8, .int .i64 1, .int .u64 0] w fun e w' => ∃ b1 b2 b3 b4, e = .returned (.tuple #[.agg #[.slice b1 0 b2, .slice b3 0 b4, .int .i64 0, .int .i64 0], .bool false]) ∧ Hid (Uar w' w.heap.size (.agg #[.slice b1 0 b2, .slice b3 0 b4, .int .i64 0, .int .i64 0]) hU0) ∧ Grew w w' := by
  refine (store_c (s := hU0) (by decide) (by decide) 8 1 0 (by decide) hb).mono ?_
  rintro e w' ⟨b1, b2, b3, b4, rfl, H, g⟩
  rw [show stS hU0 8 1 0 = hU0 by kernel_rfl] at H ⊢
  rw [show badU 8 1 = true by kernel_rfl]
  exact ⟨b1, b2, b3, b4, rfl, H, g⟩
theorem hd_7 {b1 : Option Addr} {b2 : Nat} {b3 : Option Addr} {b4 : Nat} (w : World) : Calls Try.prog 12 #[.agg #[.slice b1 1 b2, .slice b3 0 b4, .int .i64 1, .int .i64 0]] w fun e w' => e = .returned (.bool true) ∧ Grew w w' := by
  have := line_c ⟨[1], [], 1, 0⟩ b1 b2 b3 b4 w
  rwa [show lineV ⟨[1], [], 1, 0⟩ = true by kernel_rfl] at this
theorem hd_8 {b1 : Option Addr} {b2 : Nat} {b3 : Option Addr} {b4 : Nat} (w : World) : Calls Try.prog 12 #[.agg #[.slice b1 2 b2, .slice b3 0 b4, .int .i64 0, .int .i64 0]] w fun e w' => e = .returned (.bool false) ∧ Grew w w' := by
  have := line_c hU1 b1 b2 b3 b4 w
  rwa [show lineV hU1 = false by kernel_rfl] at this
theorem marked_buf (w : World) (xs : List Int) (cs : Array Value) (h : cs.toList = xs.map (Value.int .u8)) (hl : xs.length ≤ maxLen) (ha : AreBytes xs) (n : Nat) (hn : n = xs.length) (m : Nat × Nat) : Buf (w.alloc (.cells cs 5 m)) (.slice (some ⟨w.heap.size, 0, none⟩) n n) xs := by
  subst hn
  refine ⟨⟨_, _, rfl, Nat.le_refl _, fun _ => ⟨_, _, rfl, fun i hi => ?_⟩⟩, ha, hl⟩
  have hb : (w.alloc (.cells cs 5 m)).heap[w.heap.size]? = some (.cells cs 5 m) := last_block _ _ _ rfl
  have e : cs[i]? = (xs.map (Value.int .u8))[i]? := by rw [← h, Array.getElem?_toList]
  simp only [World.cell?, hb, Nat.zero_add]
  simp [e, hi]

set_option maxHeartbeats 4000000 in
theorem heads_c {W w : World} (g : Grew W w) : Calls Try.prog 6 #[] w fun e w' => e = .returned (.bool true) ∧ Grew W w' := by
  have hcv := fun (w : World) (C : Array Value) (n c : Nat) => Lib.run_convert_bytes_const (P := Try.prog) w 24 5 C n c Try.underlying24 Try.underlying5
  go_enter Try.func6, Try.ntmps6
  go_wp2_with fail
  clear hcv
  have gl := (Grew.refl w).alloc (.cells #[.int .u8 104, .int .u8 105] 5 (2, 3))
  refine (hd_1 (w := w.alloc (.cells #[.int .u8 104, .int .u8 105] 5 (2, 3))) ⟨⟨_, _, rfl, Buf.nil _, Buf.nil _⟩, ⟨by decide, by decide⟩, ⟨by decide, by decide⟩⟩ (marked_buf w [104, 105] #[.int .u8 104, .int .u8 105] rfl (by simp [maxLen]) (by intro x hx; simp at hx; omega) 2 rfl (2, 3))).mono ?_
  rintro e w1' ⟨a1, a2, a3, a4, rfl, H1, g1⟩
  go_upto_region 2 with fail
  have gy := g1.trans ((Grew.refl w1').alloc (.cells #[.slice a1 2 a2, .slice a3 0 a4, .int .i64 0, .int .i64 0] 26))
  have K1 : Blk (w1'.alloc (.cells #[.slice a1 2 a2, .slice a3 0 a4, .int .i64 0, .int .i64 0] 26)) w1'.heap.size #[.slice a1 2 a2, .slice a3 0 a4, .int .i64 0, .int .i64 0] 26 := Blk.new _ _ _ _ rfl
  have P1 := Lib.hid (H1.out.ua.grew ((Grew.refl w1').alloc (.cells #[.slice a1 2 a2, .slice a3 0 a4, .int .i64 0, .int .i64 0] 26)))
  have G1 := (g.trans gl).trans gy
  clear gy g1 H1
  generalize (w1'.alloc (.cells #[.slice a1 2 a2, .slice a3 0 a4, .int .i64 0, .int .i64 0] 26)) = w1 at *
  generalize w1'.heap.size = B1 at *
  have y0 := K1.cell 0
  have y1 := K1.cell 1
  have y2 := K1.cell 2
  have y3 := K1.cell 3
  go_wp2_with fail
  refine (hd_2 P1.out).mono ?_
  rintro e w2' ⟨b1, b2, b3, b4, rfl, H2, g2⟩
  clear y0 y1 y2 y3
  go_upto_region 3 with fail
  have gy := g2.trans ((Grew.refl w2').alloc (.cells #[.slice b1 1 b2, .slice b3 0 b4, .int .i64 0, .int .i64 0] 26))
  have K2 : Blk (w2'.alloc (.cells #[.slice b1 1 b2, .slice b3 0 b4, .int .i64 0, .int .i64 0] 26)) w2'.heap.size #[.slice b1 1 b2, .slice b3 0 b4, .int .i64 0, .int .i64 0] 26 := Blk.new _ _ _ _ rfl
  have P2 := Lib.hid (H2.out.ua.grew ((Grew.refl w2').alloc (.cells #[.slice b1 1 b2, .slice b3 0 b4, .int .i64 0, .int .i64 0] 26)))
  have G2 := G1.trans gy
  replace K1 := K1.grew gy
  replace P1 := Lib.hid (P1.out.grew gy)
  clear gy g2 H2
  generalize (w2'.alloc (.cells #[.slice b1 1 b2, .slice b3 0 b4, .int .i64 0, .int .i64 0] 26)) = w2 at *
  generalize w2'.heap.size = B2 at *
  have y0 := K2.cell 0
  have y1 := K2.cell 1
  have y2 := K2.cell 2
  have y3 := K2.cell 3
  go_wp2_with fail
  refine (hd_3 P2.out).mono ?_
  rintro e w3' ⟨c1, c2, c3, c4, rfl, H3, g3⟩
  clear y0 y1 y2 y3
  go_upto_region 4 with fail
  have gy := g3.trans ((Grew.refl w3').alloc (.cells #[.slice c1 0 c2, .slice c3 0 c4, .int .i64 0, .int .i64 0] 26))
  have K3 : Blk (w3'.alloc (.cells #[.slice c1 0 c2, .slice c3 0 c4, .int .i64 0, .int .i64 0] 26)) w3'.heap.size #[.slice c1 0 c2, .slice c3 0 c4, .int .i64 0, .int .i64 0] 26 := Blk.new _ _ _ _ rfl
  have P3 := Lib.hid (H3.out.ua.grew ((Grew.refl w3').alloc (.cells #[.slice c1 0 c2, .slice c3 0 c4, .int .i64 0, .int .i64 0] 26)))
  have G3 := G2.trans gy
  replace K1 := K1.grew gy
  replace P1 := Lib.hid (P1.out.grew gy)
  clear gy g3 H3
  generalize (w3'.alloc (.cells #[.slice c1 0 c2, .slice c3 0 c4, .int .i64 0, .int .i64 0] 26)) = w3 at *
  generalize w3'.heap.size = B3 at *
  have y0 := K3.cell 0
  have y1 := K3.cell 1
  have y2 := K3.cell 2
  have y3 := K3.cell 3
  go_wp2_with fail
  refine (hd_4 P3.out).mono ?_
  rintro e w4' ⟨d1, d2, d3, d4, rfl, H4, g4⟩
  clear y0 y1 y2 y3
  go_upto_region 5 with fail
  have gy := g4.trans ((Grew.refl w4').alloc (.cells #[.slice d1 0 d2, .slice d3 0 d4, .int .i64 0, .int .i64 0] 26))
  have K4 : Blk (w4'.alloc (.cells #[.slice d1 0 d2, .slice d3 0 d4, .int .i64 0, .int .i64 0] 26)) w4'.heap.size #[.slice d1 0 d2, .slice d3 0 d4, .int .i64 0, .int .i64 0] 26 := Blk.new _ _ _ _ rfl
  have P4 := Lib.hid (H4.out.ua.grew ((Grew.refl w4').alloc (.cells #[.slice d1 0 d2, .slice d3 0 d4, .int .i64 0, .int .i64 0] 26)))
  have G4 := G3.trans gy
  replace K1 := K1.grew gy
  replace P1 := Lib.hid (P1.out.grew gy)
  replace K3 := K3.grew gy
  replace P3 := Lib.hid (P3.out.grew gy)
  clear gy g4 H4
  generalize (w4'.alloc (.cells #[.slice d1 0 d2, .slice d3 0 d4, .int .i64 0, .int .i64 0] 26)) = w4 at *
  generalize w4'.heap.size = B4 at *
  have y0 := K3.cell 0
  have y1 := K3.cell 1
  have y2 := K3.cell 2
  have y3 := K3.cell 3
  go_wp2_with fail
  refine (hd_5 P3.out).mono ?_
  rintro e w5' ⟨f1, f2, f3, f4, rfl, H5, g5⟩
  clear y0 y1 y2 y3
  go_upto_region 6 with fail
  have gy := g5.trans ((Grew.refl w5').alloc (.cells #[.slice f1 0 f2, .slice f3 1 f4, .int .i64 0, .int .i64 0] 26))
  have K5 : Blk (w5'.alloc (.cells #[.slice f1 0 f2, .slice f3 1 f4, .int .i64 0, .int .i64 0] 26)) w5'.heap.size #[.slice f1 0 f2, .slice f3 1 f4, .int .i64 0, .int .i64 0] 26 := Blk.new _ _ _ _ rfl
  have P5 := Lib.hid (H5.out.ua.grew ((Grew.refl w5').alloc (.cells #[.slice f1 0 f2, .slice f3 1 f4, .int .i64 0, .int .i64 0] 26)))
  have G5 := G4.trans gy
  replace K1 := K1.grew gy
  replace P1 := Lib.hid (P1.out.grew gy)
  replace K3 := K3.grew gy
  replace P3 := Lib.hid (P3.out.grew gy)
  clear gy g5 H5
  generalize (w5'.alloc (.cells #[.slice f1 0 f2, .slice f3 1 f4, .int .i64 0, .int .i64 0] 26)) = w5 at *
  generalize w5'.heap.size = B5 at *
  have y0 := K3.cell 0
  have y1 := K3.cell 1
  have y2 := K3.cell 2
  have y3 := K3.cell 3
  go_wp2_with fail
  refine (hd_6 P3.out).mono ?_
  rintro e w6' ⟨h1, h2, h3, h4, rfl, H6, g6⟩
  clear y0 y1 y2 y3
  go_upto_region 7 with fail
  have gy := g6.trans ((Grew.refl w6').alloc (.cells #[.slice h1 0 h2, .slice h3 0 h4, .int .i64 0, .int .i64 0] 26))
  have K6 : Blk (w6'.alloc (.cells #[.slice h1 0 h2, .slice h3 0 h4, .int .i64 0, .int .i64 0] 26)) w6'.heap.size #[.slice h1 0 h2, .slice h3 0 h4, .int .i64 0, .int .i64 0] 26 := Blk.new _ _ _ _ rfl
  have P6 := Lib.hid (H6.out.ua.grew ((Grew.refl w6').alloc (.cells #[.slice h1 0 h2, .slice h3 0 h4, .int .i64 0, .int .i64 0] 26)))
  have G6 := G5.trans gy
  replace K1 := K1.grew gy
  replace P1 := Lib.hid (P1.out.grew gy)
  replace K5 := K5.grew gy
  replace P5 := Lib.hid (P5.out.grew gy)
  clear gy g6 H6
  generalize (w6'.alloc (.cells #[.slice h1 0 h2, .slice h3 0 h4, .int .i64 0, .int .i64 0] 26)) = w6 at *
  generalize w6'.heap.size = B6 at *
  clear K2 P2 K3 P3 K4 P4 K6 P6
  have z1 := K5.cell 1
  go_wp2_with fail
  have gl := (Grew.refl w6).alloc (.cells #[.int .u8 65] 5)
  have P5' := P5.out
  have HO : Buf w6 (.slice f3 1 f4) [65] := by
    obtain ⟨u1, u2, e, q1, q2⟩ := P5'.shape
    simp only [Value.agg.injEq] at e
    cases e
    exact q2
  refine (same_c _ (HO.grew gl).bytes (Row.buf (Row.lit w6 w6.heap.size (Nat.le_refl _) #[.int .u8 65] [65] rfl (by simp [maxLen]) _ rfl 1 rfl) (by intro x hx; simp at hx; omega)).bytes).mono ?_
  rintro e w7 ⟨rfl, q7⟩
  obtain rfl := q7.symm
  clear z1
  go_wp2_with fail
  refine (hd_7 _).mono ?_
  rintro e w8 ⟨rfl, g8⟩
  have gz := (gl.trans ((Grew.refl _).alloc _)).trans g8
  have y0 := (K1.grew gz).cell 0
  have y1 := (K1.grew gz).cell 1
  have y2 := (K1.grew gz).cell 2
  have y3 := (K1.grew gz).cell 3
  go_wp2_with fail
  refine (hd_8 _).mono ?_
  rintro e w9 ⟨rfl, g9⟩
  go_wp2_with fail
  go_ret
  exact ⟨rfl, (G6.trans gz).trans g9⟩
end Go.Proofs.Ytegncliegmknaaa
