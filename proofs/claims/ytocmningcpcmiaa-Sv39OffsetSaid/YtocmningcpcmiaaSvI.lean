/-
  What must come at any rate ('heads' of the statements about package sv39): true, where the package answers as the plain numbers say (Pages).
-/
import Derived.Test.YtocmningcpcmiaaSvF
import Derived.Test.YtocmningcpcmiaaSvH
import Derived.Deep.Fields
import Derived.WalkKit
import Derived.Outline
import Derived.Handy
import Derived.Deep.QuietTactic
import Derived.BigQuiet
import Derived.Deep.DeepCutAuto
set_option linter.unusedVariables false
set_option linter.unusedSimpArgs false
namespace Go.Proofs.Ytocmningcpcmiaa
open Go.RowKit

/-- Package sv39 answers so. -/
structure Pages : Prop where
  trans : ∀ (w : World) (v : Value) (xs : List Int) (satp status priv x kind : Int), 0 ≤ satp → satp < 18446744073709551616 → 0 ≤ status → status < 18446744073709551616 → 0 ≤ x → x < 18446744073709551616 → Buf w v xs → xs.length ≤ 140737488355328 →
    Calls Try.prog 9 #[.agg #[v], .int .u64 satp, .int .u64 status, .int .i64 priv, .int .u64 x, .int .i64 kind] w (SvEnds (svV xs satp status priv x kind) w)
  fault : ∀ (kind : Int) (page : Bool) (w : World), Calls Try.prog 12 #[.int .i64 kind, .bool page] w fun e w' => e = .returned (.int .i64 (faultV kind page)) ∧ Grew w w'
/-- As a slice written out. -/
def SvOut (s : Sv) (W : World) (e : Ending) (w' : World) : Prop := ∃ a n c, e = .returned (.tuple #[.int .u64 s.addr, .agg #[.slice a n c], .int .i64 s.cause, .bool s.ok]) ∧ Hid (Buf w' (.slice a n c) s.mem) ∧ Grew W w'
theorem SvEnds.out {s : Sv} {W w' : World} {e : Ending} (h : SvEnds s W e w') : SvOut s W e w' := by
  obtain ⟨u, rfl, hb, hg⟩ := h
  obtain ⟨a, c, rfl, _, _⟩ := hb.shape
  exact ⟨a, _, c, rfl, hb, hg⟩
theorem Pages.at (P : Pages) {w : World} {v : Value} {xs : List Int} {satp status priv x kind : Int} (s : Sv) (hs : svV xs satp status priv x kind = s) (h1 : 0 ≤ satp) (h2 : satp < 18446744073709551616) (h3 : 0 ≤ status) (h4 : status < 18446744073709551616) (h5 : 0 ≤ x) (h6 : x < 18446744073709551616) (hb : Buf w v xs) (hl : xs.length ≤ 140737488355328) :
    Calls Try.prog 9 #[.agg #[v], .int .u64 satp, .int .u64 status, .int .i64 priv, .int .u64 x, .int .i64 kind] w (SvOut s w) :=
  (P.trans w v xs satp status priv x kind h1 h2 h3 h4 h5 h6 hb hl).mono fun _ _ h => hs ▸ h.out

/-! ### The numbers of heads -/
def hdM : List Int := writeV (List.replicate 4096 0) 2147483648 8 536870927
theorem hdM_len : hdM.length = 4096 := by unfold hdM; rw [writeV_length, List.length_replicate]
theorem hdM_ok : AreBytes hdM := writeV_ok _ _ _ (by intro x hx; rw [(List.mem_replicate.1 hx).2]; omega)
theorem hdM_in : insideV hdM.length 2147483648 8 = true := by rw [hdM_len]; decide +kernel
theorem hdM_read : readV hdM 2147483648 8 = 536870927 := read_write8 (by rw [List.length_replicate]; decide +kernel) (by omega) (by omega)
theorem hd_a : svV hdM 9223372036855300096 0 1 291 2 = ⟨2147483939, writeV hdM 2147483648 8 536871119, 0, true⟩ := by
  unfold svV
  rw [if_neg (by decide +kernel), if_pos (by decide +kernel)]
  simp only [svGo]
  rw [show entP (fieldV 9223372036855300096 43 0 * 4096) 291 2 = 2147483648 by decide +kernel, hdM_in, hdM_read]
  rw [if_pos rfl, if_neg (by decide +kernel), if_pos (by decide +kernel), if_pos (by decide +kernel), show markE 536870927 2 = 536871119 by decide +kernel]
  congr 1
theorem hd_b : svV hdM 9223372036855300096 0 0 291 1 = ⟨0, hdM, 13, false⟩ := by
  unfold svV
  rw [if_neg (by decide +kernel), if_pos (by decide +kernel)]
  simp only [svGo]
  rw [show entP (fieldV 9223372036855300096 43 0 * 4096) 291 2 = 2147483648 by decide +kernel, hdM_in, hdM_read]
  rw [if_pos rfl, if_neg (by decide +kernel), if_pos (by decide +kernel), if_neg (by decide +kernel)]
  rfl
theorem hd_c : svV hdM 9223372036855300096 0 3 291 0 = ⟨291, hdM, 0, true⟩ := by
  unfold svV
  rw [if_pos (.inl (by decide))]
theorem hd_e : readV (writeV hdM 2147483648 8 536871119) 2147483648 8 = 536871119 := read_write8 hdM_in (by omega) (by omega)
theorem hd_write (w : World) (v : Value) (hb : Buf w v (List.replicate 4096 0)) : Calls Try.prog 15 #[.agg #[v], .int .u64 2147483648, .int .i64 8, .int .u64 536870927] w fun e w' => ∃ a n c b, e = .returned (.tuple #[.agg #[.slice a n c], .bool b]) ∧ Hid (Buf w' (.slice a n c) hdM) ∧ Grew w w' := by
  refine (refWrite_c 2147483648 8 536870927 (by omega) (by omega) (by omega) (by omega) w hb (by rw [List.length_replicate]; omega)).mono ?_
  rintro e w' ⟨r, rfl, hr, hg⟩
  obtain ⟨a, c, rfl, _, _⟩ := hr.shape
  exact ⟨a, _, c, _, rfl, hr, hg⟩
theorem hd_read (w : World) (v : Value) (hb : Buf w v (writeV hdM 2147483648 8 536871119)) : Calls Try.prog 16 #[.agg #[v], .int .u64 2147483648, .int .i64 8] w fun e w' => ∃ b, e = .returned (.tuple #[.int .u64 536871119, .bool b]) ∧ Grew w w' := by
  refine (refRead_c 2147483648 8 (by omega) (by omega) (by omega) (by omega) w hb (by rw [writeV_length, hdM_len]; omega)).mono ?_
  rintro e w' ⟨rfl, hg⟩
  exact ⟨_, by rw [hd_e], hg⟩
theorem zeros_ok (n : Nat) : AreBytes (List.replicate n 0) := by intro x hx; rw [(List.mem_replicate.1 hx).2]; omega

set_option maxHeartbeats 2000000 in
theorem heads_c (P : Pages) (w : World) : Calls Try.prog 8 #[] w fun e w' => e = .returned (.bool true) ∧ Grew w w' := by
  have ta := fun w (v : Value) (h : Buf w v hdM) => P.at _ hd_a (by omega) (by omega) (by omega) (by omega) (by omega) (by omega) h (by rw [hdM_len]; omega)
  have tb := fun w (v : Value) (h : Buf w v hdM) => P.at _ hd_b (by omega) (by omega) (by omega) (by omega) (by omega) (by omega) h (by rw [hdM_len]; omega)
  have tc := fun w (v : Value) (h : Buf w v hdM) => P.at _ hd_c (by omega) (by omega) (by omega) (by omega) (by omega) (by omega) h (by rw [hdM_len]; omega)
  have hwr := hd_write
  have hrd := hd_read
  generalize writeV hdM 2147483648 8 536871119 = M2 at *
  generalize hdM = M at *
  have TA := Lib.hid ta
  have TB := Lib.hid tb
  have TC := Lib.hid tc
  have HW := Lib.hid hwr
  have HR := Lib.hid hrd
  clear ta tb tc hwr hrd
  go_enter Try.func8, Try.ntmps8
  go_upto_region 2 with (refine wpList_make_b rfl (.const (.int .i64 4096)) (.const (.int .i64 4096)) rfl (Grew.refl w) .i64 .i64 _ _ 4096 (by rfl) (by rfl) rfl rfl (by omega) ?_; intro w1 hZ g1)
  have hA2 : Blk (w1.alloc (.cells #[.slice (some ⟨w.heap.size, 0, none⟩) 4096 4096] 24)) w1.heap.size #[.slice (some ⟨w.heap.size, 0, none⟩) 4096 4096] 24 := Blk.new _ _ _ _ rfl
  have g2 : Grew w (w1.alloc (.cells #[.slice (some ⟨w.heap.size, 0, none⟩) 4096 4096] 24)) := g1.alloc _
  have hb2 := Lib.hid (takes_box (hZ.out.buf (zeros_ok 4096)) #[.slice (some ⟨w.heap.size, 0, none⟩) 4096 4096] 24)
  have hAw := g1.size
  generalize (w1.alloc (.cells #[.slice (some ⟨w.heap.size, 0, none⟩) 4096 4096] 24)) = w2 at *
  generalize w1.heap.size = A at *
  have cA := hA2.cell 0
  go_wp2_with fail
  refine (HW.out _ _ hb2.out).mono ?_
  rintro e w3 ⟨a1, n1, c1, b1, rfl, hM3, g3⟩
  have hA3 := hA2.grew g3
  clear cA
  have cA := hA3.cell 0
  have fA := hA3.free 0
  go_upto_region 3 with fail
  have hA4 : Blk (w3.setCell ⟨A, 0, none⟩ (.slice a1 n1 c1)) A #[.slice a1 n1 c1] 24 := hA3.set _
  have g4 : Grew w (w3.setCell ⟨A, 0, none⟩ (.slice a1 n1 c1)) := (g2.trans g3).setCell hAw _
  have hM4 := Lib.hid (hM3.out.store hA3 (.slice a1 n1 c1))
  clear cA fA
  generalize (w3.setCell ⟨A, 0, none⟩ (.slice a1 n1 c1)) = w4 at *
  have cA := hA4.cell 0
  go_wp2_with fail
  refine (TA.out _ _ hM4.out).mono ?_
  rintro e w5 h5
  obtain ⟨a2, n2, c2, rfl, hs5, g5⟩ := h5
  clear cA
  go_upto_region 5 with fail
  have hC6 : Blk (w5.alloc (.cells #[.slice a2 n2 c2] 24)) w5.heap.size #[.slice a2 n2 c2] 24 := Blk.new _ _ _ _ rfl
  have g46 : Grew w4 (w5.alloc (.cells #[.slice a2 n2 c2] 24)) := g5.alloc _
  have hs6 := Lib.hid (takes_box hs5.out #[.slice a2 n2 c2] 24)
  generalize (w5.alloc (.cells #[.slice a2 n2 c2] 24)) = w6 at *
  generalize w5.heap.size = C at *
  have cA := (hA4.grew g46).cell 0
  go_wp2_with fail
  refine (TB.out _ _ (hM4.out.grew g46)).mono ?_
  rintro e w7 h7
  obtain ⟨a3, n3, c3, rfl, hs7, g7⟩ := h7
  clear cA
  go_upto_region 6 with fail
  have g68 : Grew w6 (w7.alloc (.cells #[.slice a3 n3 c3] 24)) := g7.alloc _
  generalize (w7.alloc (.cells #[.slice a3 n3 c3] 24)) = w8 at *
  have g48 := g46.trans g68
  have cA := (hA4.grew g48).cell 0
  go_wp2_with fail
  refine (TC.out _ _ (hM4.out.grew g48)).mono ?_
  rintro e w9 h9
  obtain ⟨a4, n4, c4, rfl, hs9, g9⟩ := h9
  clear cA
  go_upto_region 7 with fail
  have g8a : Grew w8 (w9.alloc (.cells #[.slice a4 n4 c4] 24)) := g9.alloc _
  generalize (w9.alloc (.cells #[.slice a4 n4 c4] 24)) = w10 at *
  have g6a := g68.trans g8a
  have cC := (hC6.grew g6a).cell 0
  go_wp2_with fail
  refine (HR.out _ _ (hs6.out.grew g6a)).mono ?_
  rintro e w11 ⟨b2, rfl, gb⟩
  go_wp2_with fail
  refine (P.fault 0 false _).mono ?_
  rintro e w12 ⟨rfl, gc⟩
  go_wp2_with fail
  go_ret
  exact ⟨rfl, (((g4.trans g46).trans g6a).trans gb).trans gc⟩

/-! ### A parameter that is memory -/
open Go.ChangeShapes Go.WideShapes Go.Deep in
theorem open_ram {H : Type} {enc : TypeId × Value → H} {w : World} {base : Nat} {spare : Nat → Bool} {held : Bool} {r : Reach} {b0 : Nat} {v : Value} {D : DataW H} {p : List MemPlace} (hv : Value.okWide Try.prog w r b0 24 v) (h : DataW.Trod enc Try.prog w base spare held 24 v D p) :
    ∃ (a : Option Addr) (n c : Nat) (xs : List Int), v = .agg #[.slice a n c] ∧ Buf w (.slice a n c) xs := by
  have hs := Try.underlying24
  obtain ⟨⟨l⟩, rfl, hsz⟩ := okWide_struct hs hv
  rw [show Try.prog.cellsOf 24 = 1 by kernel_rfl] at hsz
  obtain ⟨fuel, hf⟩ := h
  obtain ⟨xs, n, _, _, _, hl, hg⟩ := DataW.trod_struct hs hf
  have k0 : Try.prog.cellsOf 22 = 1 := by kernel_rfl
  match l, hsz, xs, hl with
  | [c0], _, [y0], _ =>
    have g0 : DataW.trod enc Try.prog w base spare held n 22 [c0] = some y0 := by
      have := hg 0 _ rfl
      simpa [Value.cells, k0] using this
    obtain ⟨xs, hb⟩ := buf_of_trod Try.underlying22 Try.underlying5 (by kernel_rfl) g0
    obtain ⟨a, c, rfl, _, _⟩ := hb.shape
    exact ⟨a, _, c, xs, rfl, hb⟩
end Go.Proofs.Ytocmningcpcmiaa
