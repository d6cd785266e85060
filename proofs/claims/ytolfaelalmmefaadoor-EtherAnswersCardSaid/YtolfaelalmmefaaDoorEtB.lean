/-
  Package ether: parts of bytes, taken one after another.
-/
import Derived.Test.YtolfaelalmmefaaDoorEtA
import Derived.Test.YtolfaelalmmefaaDoorTri
import Derived.Test.YtolfaelalmmefaaDoorRowSet
set_option maxRecDepth 4000
set_option linter.unusedVariables false
set_option linter.unusedSimpArgs false
namespace Go.Proofs.YtolfaelalmmefaaDoor
open Go.RowKit

/-- Whatever reads as bytes reads so on. -/
def BufsKept (w w' : World) : Prop := ∀ v ys, Buf w v ys → Buf w' v ys
theorem BufsKept.refl (w : World) : BufsKept w w := fun _ _ h => h
theorem BufsKept.trans {a b c : World} (h1 : BufsKept a b) (h2 : BufsKept b c) : BufsKept a c := fun v ys h => h2 v ys (h1 v ys h)
/-- The box at P holds what reads as these bytes. -/
structure Parts (w : World) (P : Nat) (xs : List Int) : Prop where
  box : ∃ a c, Blk w P #[.slice a xs.length c] 83 ∧ Buf w (.slice a xs.length c) xs
/-- A part has been taken. -/
structure Took (w w' : World) (P : Nat) (rest : List Int) : Prop where
  parts : Parts w' P rest
  only : Only w w' P
  kept : BufsKept w w'

set_option maxHeartbeats 1000000 in
theorem take_c {P : Nat} {xs : List Int} (k : Nat) (hk : k ≤ xs.length) {w : World} (hP : Parts w P xs) :
    Calls Tryd.prog 43 #[.pointer (some ⟨P, 0, none⟩), .int .i64 k] w fun e w' => ∃ a c, e = .returned (.slice a k c) ∧ Buf w' (.slice a k c) (cutL xs 0 k) ∧ Took w w' P (cutL xs k xs.length) := by
  obtain ⟨a, c, hB, hb⟩ := hP.box
  obtain ⟨a1, hb1, r1⟩ := hb.run_tri hk
  obtain ⟨a2, c2, hb2, _, _, _, r2⟩ := hb.run_cut (lo := k) (hi := xs.length) hk (Nat.le_refl _)
  have r1 := r1 .i64 .i64
  have r2 := r2 rfl .i64
  have hl := cutL_length hk (Nat.le_refl xs.length)
  have c0 := hB.cell 0
  have f0 := hB.free 0
  have HL := Lib.hid hl
  have HB1 := Lib.hid hb1
  have HB2 := Lib.hid hb2
  have HB := Lib.hid hB
  clear hb hb1 hb2 hl hP hB
  generalize cutL xs k xs.length = ys at *
  generalize hn : xs.length = n at *
  have HN := Lib.hid hn
  clear hn
  go_enter Tryd.func43, Tryd.ntmps43
  go_wp2_with fail
  go_ret
  have kept : BufsKept w (w.setCell ⟨P, 0, none⟩ (.slice a2 (n - k) c2)) := fun v zs hz => hz.store HB.out _
  refine ⟨_, _, rfl, kept _ _ HB1.out, ⟨⟨a2, c2, ?_, ?_⟩, Only.setCell _ _ _ _, kept⟩⟩
  · rw [HL.out]; exact HB.out.set _
  · rw [HL.out]; exact kept _ _ HB2.out
theorem mac_c {P : Nat} {xs : List Int} (hk : 6 ≤ xs.length) {w : World} (hP : Parts w P xs) :
    Calls Tryd.prog 37 #[.pointer (some ⟨P, 0, none⟩)] w fun e w' => ∃ a c, e = .returned (.slice a 6 c) ∧ Buf w' (.slice a 6 c) (cutL xs 0 6) ∧ Took w w' P (cutL xs 6 xs.length) := by
  go_enter Tryd.func37, Tryd.ntmps37
  go_wp2_with fail
  refine (take_c 6 hk hP).mono ?_
  rintro e w1 ⟨a, c, rfl, hb, ht⟩
  have HB := Lib.hid hb
  have HT := Lib.hid ht
  clear hb ht
  go_wp2_with fail
  go_ret
  exact ⟨_, _, rfl, HB.out, HT.out⟩
theorem rest_c {P : Nat} {xs : List Int} {w : World} (hP : Parts w P xs) :
    Calls Tryd.prog 39 #[.pointer (some ⟨P, 0, none⟩)] w fun e w' => ∃ a c, e = .returned (.slice a xs.length c) ∧ Buf w' (.slice a xs.length c) xs ∧ Took w w' P [] := by
  have ht := take_c xs.length (Nat.le_refl _) hP
  rw [cutL_all, show cutL xs xs.length xs.length = [] by simp [cutL]] at ht
  obtain ⟨a, c, hB, hb⟩ := hP.box
  have c0 := hB.cell 0
  have HT := Lib.hid ht
  clear hB hb ht hP
  go_enter Tryd.func39, Tryd.ntmps39
  go_wp2_with fail
  refine HT.out.mono ?_
  rintro e w1 ⟨a, c, rfl, hb, ht⟩
  have HB := Lib.hid hb
  have HT := Lib.hid ht
  clear hb ht
  go_wp2_with fail
  go_ret
  exact ⟨_, _, rfl, HB.out, HT.out⟩
theorem partPair_c {P : Nat} {xs : List Int} (hk : 2 ≤ xs.length) {w : World} (hP : Parts w P xs) :
    Calls Tryd.prog 38 #[.pointer (some ⟨P, 0, none⟩)] w fun e w' => e = .returned (.int .i64 (getV (cutL xs 0 2) true)) ∧ Took w w' P (cutL xs 2 xs.length) := by
  obtain ⟨_, _, _, hb0⟩ := hP.box
  have hlt := getG_lt (hb0.ok.cut 0 2) true (n := 2) (cutL_length (by omega) hk) (by omega)
  have hw : IntKind.i64.wrap (getV (cutL xs 0 2) true) = getV (cutL xs 0 2) true := IntWalk.i64_in _ (by omega)
  have hok := hb0.ok.cut 0 2
  have hln := cutL_length (lo := 0) (hi := 2) (by omega) hk
  have HG := Lib.hid (fun (w' : World) (a : Option Addr) (c : Nat) (hb : Buf w' (.slice a 2 c) (cutL xs 0 2)) => get_c true hok (by rw [hln]; omega) w' hb.bytes)
  have HT := Lib.hid (take_c 2 hk hP)
  clear hP hk hok hln hb0
  generalize getV (cutL xs 0 2) true = g at *
  go_enter Tryd.func38, Tryd.ntmps38
  go_wp2_with fail
  refine HT.out.mono ?_
  rintro e w1 ⟨a, c, rfl, hb, ht⟩
  have HB := Lib.hid hb
  have HT := Lib.hid ht
  clear hb ht
  go_wp2_with fail
  refine (HG.out _ _ _ HB.out).mono ?_
  rintro e w2 ⟨rfl, h2⟩
  obtain rfl := h2.symm
  go_wp2_with fail
  go_ret
  exact ⟨rfl, HT.out⟩
theorem partAddress_c {P : Nat} {xs : List Int} (hk : 4 ≤ xs.length) {w : World} (hP : Parts w P xs) :
    Calls Tryd.prog 44 #[.pointer (some ⟨P, 0, none⟩)] w fun e w' => e = .returned (.int .u32 (getV (cutL xs 0 4) true)) ∧ Took w w' P (cutL xs 4 xs.length) := by
  obtain ⟨_, _, _, hb0⟩ := hP.box
  have hlt := getG_lt (hb0.ok.cut 0 4) true (n := 4) (cutL_length (by omega) hk) (by omega)
  have hw : IntKind.u32.wrap (getV (cutL xs 0 4) true) = getV (cutL xs 0 4) true := by
    have e : (2 : Int) ^ (8 * 4) = 4294967296 := by decide
    rw [IntKind.wrap_u32]; omega
  have hok := hb0.ok.cut 0 4
  have hln := cutL_length (lo := 0) (hi := 4) (by omega) hk
  have HG := Lib.hid (fun (w' : World) (a : Option Addr) (c : Nat) (hb : Buf w' (.slice a 4 c) (cutL xs 0 4)) => get_c true hok (by rw [hln]; omega) w' hb.bytes)
  have HT := Lib.hid (take_c 4 hk hP)
  clear hP hk hok hln hb0
  generalize getV (cutL xs 0 4) true = g at *
  go_enter Tryd.func44, Tryd.ntmps44
  go_wp2_with fail
  refine HT.out.mono ?_
  rintro e w1 ⟨a, c, rfl, hb, ht⟩
  have HB := Lib.hid hb
  have HT := Lib.hid ht
  clear hb ht
  go_wp2_with fail
  refine (HG.out _ _ _ HB.out).mono ?_
  rintro e w2 ⟨rfl, h2⟩
  obtain rfl := h2.symm
  go_wp2_with fail
  go_ret
  exact ⟨rfl, HT.out⟩
theorem partsOf_c {v : Value} {xs : List Int} (hl : xs.length ≤ 140737488355328) {w : World} (hb : Buf w v xs) :
    Calls Tryd.prog 36 #[v] w fun e w' => ∃ P, e = .returned (.pointer (some ⟨P, 0, none⟩)) ∧ w.heap.size ≤ P ∧ Parts w' P xs ∧ Grew w w' := by
  have HC := Lib.hid (cloneB_c hl hb)
  obtain ⟨a, c, rfl, _, _⟩ := hb.shape
  clear hb
  go_enter Tryd.func36, Tryd.ntmps36
  go_wp2_with fail
  refine HC.out.mono ?_
  rintro e w1 ⟨a1, c1, rfl, _, hb1, g1⟩
  have HB := Lib.hid hb1
  clear hb1
  go_wp2_with fail
  go_ret
  exact ⟨_, rfl, g1.size, ⟨_, _, Blk.new _ _ _ _ rfl, HB.out.grew ((Grew.refl _).alloc _)⟩, g1.alloc _⟩
end Go.Proofs.YtolfaelalmmefaaDoor
