/-
  Package udp: why bytes are no datagram (check), and the number of that.
-/
import Derived.Test.YtcaafinjphionaaDoorUdB
import Derived.Test.YtcaafinjphionaaDoorUdAs
import Derived.Test.YtcaafinjphionaaDoorIpL
set_option maxRecDepth 4000
set_option linter.unusedVariables false
set_option linter.unusedSimpArgs false
namespace Go.Proofs.YtcaafinjphionaaDoor
open Go.RowKit

theorem cut_two {xs : List Int} {k : Nat} (h : k + 2 ≤ xs.length) : cutL xs k (k + 2) = [xs.getD k 0, xs.getD (k + 1) 0] := by
  unfold cutL
  rw [List.drop_eq_getElem_cons (by omega : k < xs.length), List.drop_eq_getElem_cons (by omega : k + 1 < xs.length), show k + 2 - k = 2 by omega, List.getD_eq_getElem?_getD, List.getD_eq_getElem?_getD, List.getElem?_eq_getElem (by omega : k < xs.length), List.getElem?_eq_getElem (by omega : k + 1 < xs.length)]
  rfl
theorem summedU_iff {xs : List Int} (ok : AreBytes xs) (h : 8 ≤ xs.length) : summedU xs = (getV (cutL xs 6 8) true != 0) := by
  have h6 := ok.getD 6
  have h7 := ok.getD 7
  rw [cut_two (k := 6) (by omega), getV_two]
  unfold summedU
  generalize xs.getD 6 0 = x at *
  generalize xs.getD (6 + 1) 0 = y at *
  by_cases hx : x = 0 <;> by_cases hy : y = 0
  · subst hx hy; rfl
  · rw [show (x != 0) = false by simpa using hx, show (y != 0) = true by simpa using hy, show (y + x * 256 != 0) = true by simp; omega]; rfl
  · rw [show (x != 0) = true by simpa using hx, show (y != 0) = false by simpa using hy, show (y + x * 256 != 0) = true by simp; omega]; rfl
  · rw [show (x != 0) = true by simpa using hx, show (y != 0) = true by simpa using hy, show (y + x * 256 != 0) = true by simp; omega]; rfl
theorem check_short (a : Option Addr) (n c : Nat) (src dst : Int) (hs : (n : Int) < 8) (w : World) :
    Calls Tryd.prog 32 #[.slice a n c, .int .u32 src, .int .u32 dst] w fun e w' => ∃ s, e = .returned (.iface 68 (.agg #[.int .i64 160, .int .i64 n, .string s])) ∧ Grew w w' := by
  go_enter Tryd.func32, Tryd.ntmps32
  go_wp2_with fail
  go_ret
  exact ⟨_, rfl, Grew.refl _⟩
set_option maxHeartbeats 1000000 in
theorem check_0 (a : Option Addr) (n c : Nat) (xs : List Int) (src dst : Int) (hs : ¬ ((n : Int) < 8)) {w : World} (hb : Buf w (.slice a n c) xs) (h1 : nU xs < 8) :
    Calls Tryd.prog 32 #[.slice a n c, .int .u32 src, .int .u32 dst] w fun e w' => ∃ s, e = .returned (.iface 68 (.agg #[.int .i64 161, .int .i64 n, .string s])) ∧ Grew w w' := by
  have hn := hb.lenEq.1
  have hm0 := getG_lt (hb.ok.cut 4 6) true (n := 2) (cutL_length (by omega) (by omega)) (by omega)
  rw [show (2 : Int) ^ (8 * 2) = 65536 by decide] at hm0
  have hM : getV (cutL xs 4 6) true = ((nU xs : Nat) : Int) := by unfold nU; omega
  have HH := Lib.hid (headAt_c (by omega) hb)
  rw [hM] at HH
  have k1 : (((nU xs : Nat) : Int) < 8) := by omega
  clear hM hm0 hb h1   hn
  generalize nU xs = N at *
  generalize getV (cutL xs 0 2) true = y0 at *
  generalize getV (cutL xs 2 4) true = y1 at *
  generalize getV (cutL xs 6 8) true = y3 at *
  go_enter Tryd.func32, Tryd.ntmps32
  go_wp2_with fail
  refine HH.out.mono ?_
  rintro e w1 ⟨rfl, g1⟩
  go_upto_region 4 with fail
  have hH : Blk (w1.alloc (.cells #[.int .i64 y0, .int .i64 y1, .int .i64 (N : Nat), .int .i64 y3] 43)) w1.heap.size #[.int .i64 y0, .int .i64 y1, .int .i64 (N : Nat), .int .i64 y3] 43 := Blk.new _ _ _ _ rfl
  have gh : Grew w1 (w1.alloc (.cells #[.int .i64 y0, .int .i64 y1, .int .i64 (N : Nat), .int .i64 y3] 43)) := (Grew.refl _).alloc _
  generalize (w1.alloc (.cells #[.int .i64 y0, .int .i64 y1, .int .i64 (N : Nat), .int .i64 y3] 43)) = w2 at *
  generalize hlH : w1.heap.size = H at *
  have G2 := g1.trans gh
  have x0 := hH.cell 0
  have x1 := hH.cell 1
  have x2 := hH.cell 2
  have x3 := hH.cell 3
  go_wp2_with fail
  go_ret
  exact ⟨_, rfl, G2⟩
set_option maxHeartbeats 1000000 in
theorem check_1 (a : Option Addr) (n c : Nat) (xs : List Int) (src dst : Int) (hs : ¬ ((n : Int) < 8)) {w : World} (hb : Buf w (.slice a n c) xs) (h1 : ¬ nU xs < 8) (h2 : xs.length < nU xs) :
    Calls Tryd.prog 32 #[.slice a n c, .int .u32 src, .int .u32 dst] w fun e w' => ∃ s, e = .returned (.iface 68 (.agg #[.int .i64 160, .int .i64 n, .string s])) ∧ Grew w w' := by
  have hn := hb.lenEq.1
  have hm0 := getG_lt (hb.ok.cut 4 6) true (n := 2) (cutL_length (by omega) (by omega)) (by omega)
  rw [show (2 : Int) ^ (8 * 2) = 65536 by decide] at hm0
  have hM : getV (cutL xs 4 6) true = ((nU xs : Nat) : Int) := by unfold nU; omega
  have HH := Lib.hid (headAt_c (by omega) hb)
  rw [hM] at HH
  have hNB : nU xs ≤ 65535 := by unfold nU; omega
  have k1 : ¬ (((nU xs : Nat) : Int) < 8) := by omega
  have k2 : (((n : Nat) : Int) < (nU xs : Nat)) := by omega
  clear hM hm0 hb h1 h2 hNB hn
  generalize nU xs = N at *
  generalize getV (cutL xs 0 2) true = y0 at *
  generalize getV (cutL xs 2 4) true = y1 at *
  generalize getV (cutL xs 6 8) true = y3 at *
  go_enter Tryd.func32, Tryd.ntmps32
  go_wp2_with fail
  refine HH.out.mono ?_
  rintro e w1 ⟨rfl, g1⟩
  go_upto_region 4 with fail
  have hH : Blk (w1.alloc (.cells #[.int .i64 y0, .int .i64 y1, .int .i64 (N : Nat), .int .i64 y3] 43)) w1.heap.size #[.int .i64 y0, .int .i64 y1, .int .i64 (N : Nat), .int .i64 y3] 43 := Blk.new _ _ _ _ rfl
  have gh : Grew w1 (w1.alloc (.cells #[.int .i64 y0, .int .i64 y1, .int .i64 (N : Nat), .int .i64 y3] 43)) := (Grew.refl _).alloc _
  generalize (w1.alloc (.cells #[.int .i64 y0, .int .i64 y1, .int .i64 (N : Nat), .int .i64 y3] 43)) = w2 at *
  generalize hlH : w1.heap.size = H at *
  have G2 := g1.trans gh
  have x0 := hH.cell 0
  have x1 := hH.cell 1
  have x2 := hH.cell 2
  have x3 := hH.cell 3
  go_wp2_with fail
  go_ret
  exact ⟨_, rfl, G2⟩
set_option maxHeartbeats 1000000 in
theorem check_2 (a : Option Addr) (n c : Nat) (xs : List Int) (src dst : Int) (hsr : 0 ≤ src ∧ src < 4294967296) (hdr : 0 ≤ dst ∧ dst < 4294967296) (hs : ¬ ((n : Int) < 8)) {w : World} (hb : Buf w (.slice a n c) xs) (h1 : ¬ nU xs < 8) (h2 : ¬ xs.length < nU xs) (h3 : (getV (cutL xs 6 8) true != 0) = true) (h4 : ¬ sumV (psU src dst (nU xs) ++ cutL xs 0 (nU xs)) = 0) :
    Calls Tryd.prog 32 #[.slice a n c, .int .u32 src, .int .u32 dst] w fun e w' => ∃ s, e = .returned (.iface 68 (.agg #[.int .i64 162, .int .i64 n, .string s])) ∧ Grew w w' := by
  have hn := hb.lenEq.1
  have hm0 := getG_lt (hb.ok.cut 4 6) true (n := 2) (cutL_length (by omega) (by omega)) (by omega)
  rw [show (2 : Int) ^ (8 * 2) = 65536 by decide] at hm0
  have hM : getV (cutL xs 4 6) true = ((nU xs : Nat) : Int) := by unfold nU; omega
  have HH := Lib.hid (headAt_c (by omega) hb)
  rw [hM] at HH
  have hNB : nU xs ≤ 65535 := by unfold nU; omega
  obtain ⟨a1, c1, H1, z1, z2, hrun, z4⟩ := hb.run_cut (lo := 0) (hi := nU xs) (by omega) (by omega)
  have r1 : ∀ w', (Instr.sliceAt 22 (.slice a n c) none (some (.int .i64 (nU xs : Nat))) none).run Tryd.prog w' = .ok (.slice a1 (nU xs) c1) w' := hrun rfl .i64
  clear z1 z2 hrun z4
  have hl1 : (cutL xs 0 (nU xs)).length = nU xs := by rw [cutL_length (by omega) (by omega)]; omega
  replace H1 : Hid (Buf w (.slice a1 (nU xs) c1) (cutL xs 0 (nU xs))) := Lib.hid (by simpa using H1)
  have HC : Hid (∀ w', Grew w w' → Calls Tryd.prog 28 #[.slice a1 (nU xs) c1, .int .u32 src, .int .u32 dst] w' fun e w'' => ∃ u, e = .returned u ∧ Buf w'' u (psU src dst (nU xs) ++ cutL xs 0 (nU xs)) ∧ Grew w' w'') := Lib.hid (fun w' g => by
    have := covered_c src dst hsr hdr (by omega) (H1.out.grew g)
    rwa [hl1] at this)
  have HR : Hid (∀ w' u, Buf w' u (psU src dst (nU xs) ++ cutL xs 0 (nU xs)) → Calls Tryd.prog 40 #[u] w' fun e w'' => e = .returned (.bool false) ∧ Grew w' w'') := Lib.hid (fun w' u h => by
    have := right_c w' h (by rw [List.length_append, psU_len, hl1]; omega)
    rwa [show decide (sumV (psU src dst (nU xs) ++ cutL xs 0 (nU xs)) = 0) = false from decide_eq_false h4] at this)
  clear h4 H1 hl1
  generalize psU src dst (nU xs) ++ cutL xs 0 (nU xs) = ys at *
  have k1 : ¬ (((nU xs : Nat) : Int) < 8) := by omega
  have k2 : ¬ (((n : Nat) : Int) < (nU xs : Nat)) := by omega
  clear hM hm0 hb h1 h2 hNB hn
  generalize nU xs = N at *
  generalize getV (cutL xs 0 2) true = y0 at *
  generalize getV (cutL xs 2 4) true = y1 at *
  generalize getV (cutL xs 6 8) true = y3 at *
  go_enter Tryd.func32, Tryd.ntmps32
  go_wp2_with fail
  refine HH.out.mono ?_
  rintro e w1 ⟨rfl, g1⟩
  go_upto_region 4 with fail
  have hH : Blk (w1.alloc (.cells #[.int .i64 y0, .int .i64 y1, .int .i64 (N : Nat), .int .i64 y3] 43)) w1.heap.size #[.int .i64 y0, .int .i64 y1, .int .i64 (N : Nat), .int .i64 y3] 43 := Blk.new _ _ _ _ rfl
  have gh : Grew w1 (w1.alloc (.cells #[.int .i64 y0, .int .i64 y1, .int .i64 (N : Nat), .int .i64 y3] 43)) := (Grew.refl _).alloc _
  generalize (w1.alloc (.cells #[.int .i64 y0, .int .i64 y1, .int .i64 (N : Nat), .int .i64 y3] 43)) = w2 at *
  generalize hlH : w1.heap.size = H at *
  have G2 := g1.trans gh
  have x0 := hH.cell 0
  have x1 := hH.cell 1
  have x2 := hH.cell 2
  have x3 := hH.cell 3
  go_wp2_with fail
  refine (HC.out w2 G2).mono ?_
  rintro e w3 ⟨u, rfl, hbu, g3⟩
  go_wp2_with fail
  refine (HR.out w3 _ hbu).mono ?_
  rintro e w4 ⟨rfl, g4⟩
  go_wp2_with fail
  go_ret
  exact ⟨_, rfl, (G2.trans g3).trans g4⟩
set_option maxHeartbeats 1000000 in
theorem check_3 (a : Option Addr) (n c : Nat) (xs : List Int) (src dst : Int) (hsr : 0 ≤ src ∧ src < 4294967296) (hdr : 0 ≤ dst ∧ dst < 4294967296) (hs : ¬ ((n : Int) < 8)) {w : World} (hb : Buf w (.slice a n c) xs) (h1 : ¬ nU xs < 8) (h2 : ¬ xs.length < nU xs) (h3 : (getV (cutL xs 6 8) true != 0) = true) (h4 : sumV (psU src dst (nU xs) ++ cutL xs 0 (nU xs)) = 0) :
    Calls Tryd.prog 32 #[.slice a n c, .int .u32 src, .int .u32 dst] w fun e w' => e = .returned .nilIface ∧ Grew w w' := by
  have hn := hb.lenEq.1
  have hm0 := getG_lt (hb.ok.cut 4 6) true (n := 2) (cutL_length (by omega) (by omega)) (by omega)
  rw [show (2 : Int) ^ (8 * 2) = 65536 by decide] at hm0
  have hM : getV (cutL xs 4 6) true = ((nU xs : Nat) : Int) := by unfold nU; omega
  have HH := Lib.hid (headAt_c (by omega) hb)
  rw [hM] at HH
  have hNB : nU xs ≤ 65535 := by unfold nU; omega
  obtain ⟨a1, c1, H1, z1, z2, hrun, z4⟩ := hb.run_cut (lo := 0) (hi := nU xs) (by omega) (by omega)
  have r1 : ∀ w', (Instr.sliceAt 22 (.slice a n c) none (some (.int .i64 (nU xs : Nat))) none).run Tryd.prog w' = .ok (.slice a1 (nU xs) c1) w' := hrun rfl .i64
  clear z1 z2 hrun z4
  have hl1 : (cutL xs 0 (nU xs)).length = nU xs := by rw [cutL_length (by omega) (by omega)]; omega
  replace H1 : Hid (Buf w (.slice a1 (nU xs) c1) (cutL xs 0 (nU xs))) := Lib.hid (by simpa using H1)
  have HC : Hid (∀ w', Grew w w' → Calls Tryd.prog 28 #[.slice a1 (nU xs) c1, .int .u32 src, .int .u32 dst] w' fun e w'' => ∃ u, e = .returned u ∧ Buf w'' u (psU src dst (nU xs) ++ cutL xs 0 (nU xs)) ∧ Grew w' w'') := Lib.hid (fun w' g => by
    have := covered_c src dst hsr hdr (by omega) (H1.out.grew g)
    rwa [hl1] at this)
  have HR : Hid (∀ w' u, Buf w' u (psU src dst (nU xs) ++ cutL xs 0 (nU xs)) → Calls Tryd.prog 40 #[u] w' fun e w'' => e = .returned (.bool true) ∧ Grew w' w'') := Lib.hid (fun w' u h => by
    have := right_c w' h (by rw [List.length_append, psU_len, hl1]; omega)
    rwa [show decide (sumV (psU src dst (nU xs) ++ cutL xs 0 (nU xs)) = 0) = true from decide_eq_true h4] at this)
  clear h4 H1 hl1
  generalize psU src dst (nU xs) ++ cutL xs 0 (nU xs) = ys at *
  have k1 : ¬ (((nU xs : Nat) : Int) < 8) := by omega
  have k2 : ¬ (((n : Nat) : Int) < (nU xs : Nat)) := by omega
  clear hM hm0 hb h1 h2 hNB hn
  generalize nU xs = N at *
  generalize getV (cutL xs 0 2) true = y0 at *
  generalize getV (cutL xs 2 4) true = y1 at *
  generalize getV (cutL xs 6 8) true = y3 at *
  go_enter Tryd.func32, Tryd.ntmps32
  go_wp2_with fail
  refine HH.out.mono ?_
  rintro e w1 ⟨rfl, g1⟩
  go_upto_region 4 with fail
  have hH : Blk (w1.alloc (.cells #[.int .i64 y0, .int .i64 y1, .int .i64 (N : Nat), .int .i64 y3] 43)) w1.heap.size #[.int .i64 y0, .int .i64 y1, .int .i64 (N : Nat), .int .i64 y3] 43 := Blk.new _ _ _ _ rfl
  have gh : Grew w1 (w1.alloc (.cells #[.int .i64 y0, .int .i64 y1, .int .i64 (N : Nat), .int .i64 y3] 43)) := (Grew.refl _).alloc _
  generalize (w1.alloc (.cells #[.int .i64 y0, .int .i64 y1, .int .i64 (N : Nat), .int .i64 y3] 43)) = w2 at *
  generalize hlH : w1.heap.size = H at *
  have G2 := g1.trans gh
  have x0 := hH.cell 0
  have x1 := hH.cell 1
  have x2 := hH.cell 2
  have x3 := hH.cell 3
  go_wp2_with fail
  refine (HC.out w2 G2).mono ?_
  rintro e w3 ⟨u, rfl, hbu, g3⟩
  go_wp2_with fail
  refine (HR.out w3 _ hbu).mono ?_
  rintro e w4 ⟨rfl, g4⟩
  go_wp2_with fail
  go_ret
  exact ⟨rfl, (G2.trans g3).trans g4⟩
set_option maxHeartbeats 1000000 in
theorem check_4 (a : Option Addr) (n c : Nat) (xs : List Int) (src dst : Int) (hs : ¬ ((n : Int) < 8)) {w : World} (hb : Buf w (.slice a n c) xs) (h1 : ¬ nU xs < 8) (h2 : ¬ xs.length < nU xs) (h3 : (getV (cutL xs 6 8) true != 0) = false) :
    Calls Tryd.prog 32 #[.slice a n c, .int .u32 src, .int .u32 dst] w fun e w' => e = .returned .nilIface ∧ Grew w w' := by
  have hn := hb.lenEq.1
  have hm0 := getG_lt (hb.ok.cut 4 6) true (n := 2) (cutL_length (by omega) (by omega)) (by omega)
  rw [show (2 : Int) ^ (8 * 2) = 65536 by decide] at hm0
  have hM : getV (cutL xs 4 6) true = ((nU xs : Nat) : Int) := by unfold nU; omega
  have HH := Lib.hid (headAt_c (by omega) hb)
  rw [hM] at HH
  have hNB : nU xs ≤ 65535 := by unfold nU; omega
  have k1 : ¬ (((nU xs : Nat) : Int) < 8) := by omega
  have k2 : ¬ (((n : Nat) : Int) < (nU xs : Nat)) := by omega
  clear hM hm0 hb h1 h2 hNB hn
  generalize nU xs = N at *
  generalize getV (cutL xs 0 2) true = y0 at *
  generalize getV (cutL xs 2 4) true = y1 at *
  generalize getV (cutL xs 6 8) true = y3 at *
  go_enter Tryd.func32, Tryd.ntmps32
  go_wp2_with fail
  refine HH.out.mono ?_
  rintro e w1 ⟨rfl, g1⟩
  go_upto_region 4 with fail
  have hH : Blk (w1.alloc (.cells #[.int .i64 y0, .int .i64 y1, .int .i64 (N : Nat), .int .i64 y3] 43)) w1.heap.size #[.int .i64 y0, .int .i64 y1, .int .i64 (N : Nat), .int .i64 y3] 43 := Blk.new _ _ _ _ rfl
  have gh : Grew w1 (w1.alloc (.cells #[.int .i64 y0, .int .i64 y1, .int .i64 (N : Nat), .int .i64 y3] 43)) := (Grew.refl _).alloc _
  generalize (w1.alloc (.cells #[.int .i64 y0, .int .i64 y1, .int .i64 (N : Nat), .int .i64 y3] 43)) = w2 at *
  generalize hlH : w1.heap.size = H at *
  have G2 := g1.trans gh
  have x0 := hH.cell 0
  have x1 := hH.cell 1
  have x2 := hH.cell 2
  have x3 := hH.cell 3
  go_wp2_with fail
  go_ret
  exact ⟨rfl, G2⟩
theorem check_c {v : Value} {xs : List Int} (src dst : Int) (hsr : 0 ≤ src ∧ src < 4294967296) (hdr : 0 ≤ dst ∧ dst < 4294967296) {w : World} (hb : Buf w v xs) :
    Calls Tryd.prog 32 #[v, .int .u32 src, .int .u32 dst] w fun e w' => ∃ u, e = .returned u ∧ ((getUE xs src dst = 0 ∧ u = .nilIface) ∨ (getUE xs src dst ≠ 0 ∧ ∃ n s, u = .iface 68 (.agg #[.int .i64 (getUE xs src dst), .int .i64 n, .string s]))) ∧ Grew w w' := by
  obtain ⟨a, c, rfl, _, _⟩ := hb.shape
  have no : ∀ {k : Int}, getUE xs src dst = k → k ≠ 0 → (Calls Tryd.prog 32 #[.slice a xs.length c, .int .u32 src, .int .u32 dst] w fun e w' => ∃ s, e = .returned (.iface 68 (.agg #[.int .i64 k, .int .i64 (xs.length : Nat), .string s])) ∧ Grew w w') → Calls Tryd.prog 32 #[.slice a xs.length c, .int .u32 src, .int .u32 dst] w fun e w' => ∃ u, e = .returned u ∧ ((getUE xs src dst = 0 ∧ u = .nilIface) ∨ (getUE xs src dst ≠ 0 ∧ ∃ n s, u = .iface 68 (.agg #[.int .i64 (getUE xs src dst), .int .i64 n, .string s]))) ∧ Grew w w' := fun hk h0 h => by
    rw [hk]
    exact h.mono fun _ _ ⟨s, he, g⟩ => ⟨_, he, .inr ⟨h0, _, s, rfl⟩, g⟩
  have yes : getUE xs src dst = 0 → (Calls Tryd.prog 32 #[.slice a xs.length c, .int .u32 src, .int .u32 dst] w fun e w' => e = .returned .nilIface ∧ Grew w w') → Calls Tryd.prog 32 #[.slice a xs.length c, .int .u32 src, .int .u32 dst] w fun e w' => ∃ u, e = .returned u ∧ ((getUE xs src dst = 0 ∧ u = .nilIface) ∨ (getUE xs src dst ≠ 0 ∧ ∃ n s, u = .iface 68 (.agg #[.int .i64 (getUE xs src dst), .int .i64 n, .string s]))) ∧ Grew w w' := fun hk h =>
    h.mono fun _ _ ⟨he, g⟩ => ⟨_, he, .inl ⟨hk, rfl⟩, g⟩
  by_cases h0 : xs.length < 8
  · exact no (k := 160) (by unfold getUE; rw [if_pos h0]) (by omega) (check_short a _ c src dst (by omega) w)
  · have hs : ¬ ((xs.length : Int) < 8) := by omega
    have hq := summedU_iff hb.ok (by omega)
    by_cases h1 : nU xs < 8
    · exact no (k := 161) (by unfold getUE; rw [if_neg h0, if_pos h1]) (by omega) (check_0 a _ c xs src dst hs hb h1)
    · by_cases h2 : xs.length < nU xs
      · exact no (k := 160) (by unfold getUE; rw [if_neg h0, if_neg h1, if_pos h2]) (by omega) (check_1 a _ c xs src dst hs hb h1 h2)
      · cases h3 : (getV (cutL xs 6 8) true != 0)
        · exact yes (by unfold getUE; rw [if_neg h0, if_neg h1, if_neg h2, if_neg (fun hh => by rw [hq, h3] at hh; simp at hh)]) (check_4 a _ c xs src dst hs hb h1 h2 h3)
        · by_cases h4 : sumV (psU src dst (nU xs) ++ cutL xs 0 (nU xs)) = 0
          · exact yes (by unfold getUE; rw [if_neg h0, if_neg h1, if_neg h2, if_neg (fun hh => hh.2 h4)]) (check_3 a _ c xs src dst hsr hdr hs hb h1 h2 h3 h4)
          · exact no (k := 162) (by unfold getUE; rw [if_neg h0, if_neg h1, if_neg h2, if_pos ⟨by rw [hq, h3], h4⟩]) (by omega) (check_2 a _ c xs src dst hsr hdr hs hb h1 h2 h3 h4)
theorem number_nil (w : World) : Calls Tryd.prog 23 #[.nilIface] w fun e w' => e = .returned (.int .i64 0) ∧ Grew w w' := by
  go_enter Tryd.func23, Tryd.ntmps23
  go_upto_region 2 with fail
  have hX : Blk (w.alloc (.cells #[.int .i64 0, .int .i64 0, .string ⟨#[]⟩] 68)) w.heap.size #[.int .i64 0, .int .i64 0, .string ⟨#[]⟩] 68 := Blk.new _ _ _ _ rfl
  have g0 : Grew w (w.alloc (.cells #[.int .i64 0, .int .i64 0, .string ⟨#[]⟩] 68)) := (Grew.refl _).alloc _
  generalize (w.alloc (.cells #[.int .i64 0, .int .i64 0, .string ⟨#[]⟩] 68)) = w0 at *
  generalize hlX : w.heap.size = X at *
  go_wp2_with fail
  refine (as_nil _ _).mono ?_
  rintro e w1 ⟨rfl, h1⟩
  obtain rfl := h1.symm
  go_wp2_with fail
  go_ret
  exact ⟨rfl, g0⟩
theorem number_hit (k n : Int) (s : ByteArray) {w : World} (sn : SenW w) : Calls Tryd.prog 23 #[.iface 68 (.agg #[.int .i64 k, .int .i64 n, .string s])] w fun e w' => e = .returned (.int .i64 k) ∧ Grew w w' := by
  go_enter Tryd.func23, Tryd.ntmps23
  go_upto_region 2 with fail
  have hX : Blk (w.alloc (.cells #[.int .i64 0, .int .i64 0, .string ⟨#[]⟩] 68)) w.heap.size #[.int .i64 0, .int .i64 0, .string ⟨#[]⟩] 68 := Blk.new _ _ _ _ rfl
  have g0 : Grew w (w.alloc (.cells #[.int .i64 0, .int .i64 0, .string ⟨#[]⟩] 68)) := (Grew.refl _).alloc _
  generalize (w.alloc (.cells #[.int .i64 0, .int .i64 0, .string ⟨#[]⟩] 68)) = w0 at *
  generalize hlX : w.heap.size = X at *
  go_wp2_with fail
  refine (as_hit _ _ _ (sn.grew g0) hX rfl).mono ?_
  rintro e w1 ⟨rfl, hX1, t1⟩
  have G1 : Grew w w1 := t1.grew g0 (by omega)
  have y0 := hX1.cell 0
  go_wp2_with fail
  go_ret
  exact ⟨rfl, G1⟩
end Go.Proofs.YtcaafinjphionaaDoor
