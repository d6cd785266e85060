/-
  What must come at any rate ('heads' of the statements about package ram): true. A parameter that is memory, opened.
-/
import Derived.Test.YtjefbnnocdaloaaRows
import Derived.Test.YtjefbnnocdaloaaRamE
import Derived.Deep.Fields
import Derived.WalkKit
import Derived.Outline
import Derived.Handy
import Derived.Deep.QuietTactic
import Derived.BigQuiet
import Derived.Deep.DeepCutAuto
set_option linter.unusedVariables false
set_option linter.unusedSimpArgs false
namespace Go.Proofs.Ytjefbnnocdaloaa
open Go.RowKit

def hdS : List Int := [0, 0, 0, 0, 0, 0, 0, 0, 2, 1, 0, 0, 0, 0, 0, 0]
theorem hd1 : writeV (List.replicate 16 0) 2147483656 2 258 = hdS := by decide +kernel
theorem hd2 : (sizeV 2 && insideV 16 2147483656 2) = true := by decide +kernel
theorem hd3 : bytesV hdS 2147483656 2 = [2, 1] := by decide +kernel
theorem hd4 : insideV 16 2147483656 2 = true := by decide +kernel
theorem hd5 : (sizeV 2 && insideV 16 2147483663 2) = false := by decide +kernel
theorem hd6 : (sizeV 1 && insideV 16 2147483647 1) = false := by decide +kernel
theorem hd7 : insideV 16 2147483664 0 = true := by decide +kernel
theorem hd8 : insideV 16 2147483665 0 = false := by decide +kernel
theorem hdOk : AreBytes hdS := by
  intro x hx
  simp [hdS] at hx
  omega
theorem ok21 : AreBytes [2, 1] := by
  intro x hx
  simp at hx
  omega
theorem lit21 (w : World) (g : Nat) (hg : g = w.heap.size) : Buf (w.alloc (.cells #[.int .u8 2, .int .u8 1] 5)) (.slice (some ⟨g, 0, none⟩) 2 2) [2, 1] :=
  (Row.lit w w.heap.size (Nat.le_refl _) #[.int .u8 2, .int .u8 1] [2, 1] rfl (by unfold maxLen; decide) g hg 2 rfl).buf ok21

theorem hd_write (w : World) (v : Value) (hb : Buf w v (List.replicate 16 0)) : Calls Try.prog 10 #[.agg #[v], .int .u64 2147483656, .int .i64 2, .int .u64 258] w fun e w' => ∃ g, e = .returned (.tuple #[.agg #[.slice (some ⟨g, 0, none⟩) 16 16], .bool true]) ∧ Hid (Buf w' (.slice (some ⟨g, 0, none⟩) 16 16) hdS) ∧ Grew w w' := by
  refine (write_c 2147483656 2 258 (by omega) (by omega) (by omega) (by omega) w hb (by simp)).mono ?_
  rintro e w' ⟨g, rfl, hr, gr⟩
  rw [hd1] at hr
  exact ⟨g, by rw [List.length_replicate, hd2], hr.buf hdOk, gr⟩
theorem hd_bytes (w : World) (v : Value) (hb : Buf w v hdS) : Calls Try.prog 9 #[.agg #[v], .int .u64 2147483656, .int .i64 2] w fun e w' => ∃ u, e = .returned (.tuple #[u, .bool true]) ∧ Hid (Buf w' u [2, 1]) ∧ Grew w w' := by
  refine (bytes_c 2147483656 2 (by omega) (by omega) (by omega) (by omega) w hb (by simp [hdS])).mono ?_
  rintro e w' ⟨u, rfl, hr, gr⟩
  rw [hd3] at hr
  exact ⟨u, by rw [show hdS.length = 16 from rfl, hd4], hr, gr⟩
theorem hd_read1 (w : World) (v : Value) (hb : Buf w v hdS) : Calls Try.prog 8 #[.agg #[v], .int .u64 2147483663, .int .i64 2] w fun e w' => ∃ y, e = .returned (.tuple #[.int .u64 y, .bool false]) ∧ Grew w w' := by
  refine (read_c 2147483663 2 (by omega) (by omega) (by omega) (by omega) w hb).mono ?_
  rintro e w' ⟨rfl, gr⟩
  exact ⟨_, by rw [show hdS.length = 16 from rfl, hd5], gr⟩
theorem hd_read2 (w : World) (v : Value) (hb : Buf w v hdS) : Calls Try.prog 8 #[.agg #[v], .int .u64 2147483647, .int .i64 1] w fun e w' => ∃ y, e = .returned (.tuple #[.int .u64 y, .bool false]) ∧ Grew w w' := by
  refine (read_c 2147483647 1 (by omega) (by omega) (by omega) (by omega) w hb).mono ?_
  rintro e w' ⟨rfl, gr⟩
  exact ⟨_, by rw [show hdS.length = 16 from rfl, hd6], gr⟩
theorem hd_in1 (a : Option Addr) (c : Nat) (w : World) : Calls Try.prog 19 #[.agg #[.slice a 16 c], .int .u64 2147483664, .int .i64 0] w fun e w' => e = .returned (.bool true) ∧ Grew w w' := by
  have := inside_c a 16 c 2147483664 0 (by unfold maxLen; decide) (by omega) (by omega) (by omega) (by omega) w
  rwa [hd7] at this
theorem hd_in2 (a : Option Addr) (c : Nat) (w : World) : Calls Try.prog 19 #[.agg #[.slice a 16 c], .int .u64 2147483665, .int .i64 0] w fun e w' => e = .returned (.bool false) ∧ Grew w w' := by
  have := inside_c a 16 c 2147483665 0 (by unfold maxLen; decide) (by omega) (by omega) (by omega) (by omega) w
  rwa [hd8] at this

set_option maxHeartbeats 1000000 in
theorem heads_c (w : World) : Calls Try.prog 7 #[] w fun e w' => e = .returned (.bool true) ∧ Grew w w' := by
  go_enter Try.func7, Try.ntmps7
  go_wp2_with fail
  refine (new_yes 16 (by omega) (by omega) _).mono ?_
  rintro e w1 ⟨g, rfl, hr, g1⟩
  have hgl := own_lt hr g rfl
  have c8 : w1.cell? ⟨g, 8, none⟩ = some (.int .u8 0) := by
    have := hr.cellAt 8 (by decide)
    rw [this]; rfl
  have C8 := Lib.hid c8
  have hbuf := Lib.hid (hr.buf (AreBytes.zeros 16))
  clear hr c8
  go_upto_region 2 with fail
  have hA2 : Blk (w1.alloc (.cells #[.slice (some ⟨g, 0, none⟩) 16 16] 24)) w1.heap.size #[.slice (some ⟨g, 0, none⟩) 16 16] 24 := Blk.new w1 _ _ _ rfl
  have g12 : Grew w1 (w1.alloc (.cells #[.slice (some ⟨g, 0, none⟩) 16 16] 24)) := (Grew.refl w1).alloc _
  generalize (w1.alloc (.cells #[.slice (some ⟨g, 0, none⟩) 16 16] 24)) = w2 at *
  have hbuf2 := Lib.hid (hbuf.out.grew g12)
  generalize hA : w1.heap.size = A at *
  have HA := Lib.hid hA
  clear hA
  have cA2 := hA2.cell 0
  go_wp2_with fail
  refine (hd_write _ _ hbuf2.out).mono ?_
  rintro e w3 ⟨g', rfl, hbuf3, g3⟩
  clear cA2
  have hA3 := hA2.grew g3
  go_upto_region 3 with fail
  have hB4 : Blk (w3.alloc (.cells #[.slice (some ⟨g', 0, none⟩) 16 16] 24)) w3.heap.size #[.slice (some ⟨g', 0, none⟩) 16 16] 24 := Blk.new w3 _ _ _ rfl
  have g34 : Grew w3 (w3.alloc (.cells #[.slice (some ⟨g', 0, none⟩) 16 16] 24)) := (Grew.refl w3).alloc _
  generalize (w3.alloc (.cells #[.slice (some ⟨g', 0, none⟩) 16 16] 24)) = w4 at *
  have hbuf4 := Lib.hid (hbuf3.out.grew g34)
  have hA4 := hA3.grew g34
  generalize w3.heap.size = B at *
  have cB4 := hB4.cell 0
  go_wp2_with fail
  refine (hd_bytes _ _ hbuf4.out).mono ?_
  rintro e w5 ⟨u, rfl, hu5, g5⟩
  have cB5 := (hB4.grew g5).cell 0
  clear cB4
  go_upto_region 4 with fail
  go_wp2_with fail
  refine (hd_read1 _ _ (hbuf4.out.grew g5)).mono ?_
  rintro e w6 ⟨y6, rfl, g6⟩
  have g46 := g5.trans g6
  have cB6 := (hB4.grew g46).cell 0
  clear cB5
  go_upto_region 5 with fail
  go_wp2_with fail
  refine (hd_read2 _ _ (hbuf4.out.grew g46)).mono ?_
  rintro e w7 ⟨y7, rfl, g7⟩
  have g47 := g46.trans g7
  clear cB6
  go_upto_region 6 with fail
  go_wp2_with fail
  refine (new_no 0 (by omega) (by omega) (by omega) _).mono ?_
  rintro e w8 ⟨rfl, g8⟩
  have g48 := g47.trans g8
  go_upto_region 7 with fail
  have g49 : Grew w4 (w8.alloc (.cells #[.slice none 0 0] 24)) := g48.alloc _
  have g59 : Grew w5 (w8.alloc (.cells #[.slice none 0 0] 24)) := ((g6.trans g7).trans g8).alloc _
  generalize (w8.alloc (.cells #[.slice none 0 0] 24)) = w9 at *
  have hu9 := Lib.hid (hu5.out.grew g59)
  go_wp2_with fail
  refine (same01_b _ (hu9.out.grew ((Grew.refl w9).alloc _)) (lit21 w9 _ rfl) rfl).mono ?_
  rintro e w10 ⟨rfl, h10⟩
  have g4a : Grew w4 w10 := by rw [← h10]; exact g49.alloc _
  clear h10
  have hA10 := hA4.grew g4a
  have cA10 := hA10.cell 0
  go_wp2_with fail
  refine (hd_in1 _ _ _).mono ?_
  rintro e w11 ⟨rfl, g11⟩
  have g4b := g4a.trans g11
  have cA11 := (hA4.grew g4b).cell 0
  clear cA10
  go_wp2_with fail
  refine (hd_in2 _ _ _).mono ?_
  rintro e w12 ⟨rfl, g12⟩
  have g4c := g4b.trans g12
  have cA12 := (hA4.grew g4c).cell 0
  clear cA11
  have g1c := ((‹Grew w1 w2›.trans g3).trans g34).trans g4c
  have c8' : w12.cell? ⟨g, 8, none⟩ = some (.int .u8 0) := by
    have := (gcell g1c).1 g 8 (by rw [HA.out]; exact hgl)
    rw [this]; exact C8.out
  go_wp2_with fail
  go_ret
  exact ⟨rfl, g1.trans g1c⟩

/-! ### A parameter that is memory -/
open Go.ChangeShapes Go.WideShapes Go.Deep in
theorem open_ram {H : Type} {enc : TypeId × Value → H} {w : World} {base : Nat} {spare : Nat → Bool} {held : Bool} {r : Reach} {b0 : Nat} {v : Value} {D : DataW H} {p : List MemPlace} (hv : Value.okWide Try.prog w r b0 24 v) (h : DataW.Trod enc Try.prog w base spare held 24 v D p) :
    ∃ (a : Option Addr) (n c : Nat) (xs : List Int), v = .agg #[.slice a n c] ∧ Buf w (.slice a n c) xs := by
  have hs := Try.underlying24
  obtain ⟨⟨l⟩, rfl, hsz⟩ := okWide_struct hs hv
  rw [show Try.prog.cellsOf 24 = 1 by kernel_rfl] at hsz
  obtain ⟨fuel, hf⟩ := h
  obtain ⟨xs, n, _, _, _, hl, hg⟩ := DataW.trod_struct hs hf
  have k0 : Try.prog.cellsOf 22 = 1 := by kernel_rfl
  match l, hsz, xs, hl with
  | [c0], _, [y0], _ =>
    have g0 : DataW.trod enc Try.prog w base spare held n 22 [c0] = some y0 := by
      have := hg 0 _ rfl
      simpa [Value.cells, k0] using this
    obtain ⟨xs, hb⟩ := buf_of_trod Try.underlying22 Try.underlying5 (by kernel_rfl) g0
    obtain ⟨a, c, rfl, _, _⟩ := hb.shape
    exact ⟨a, _, c, xs, rfl, hb⟩
end Go.Proofs.Ytjefbnnocdaloaa
