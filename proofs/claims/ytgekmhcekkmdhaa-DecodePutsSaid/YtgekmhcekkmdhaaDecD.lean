/-
  Contract of package decode: kindOf: which instruction a word is.
-/
import Derived.Test.YtgekmhcekkmdhaaDecB
import Derived.Test.YtgekmhcekkmdhaaDecC
import Derived.Test.YtgekmhcekkmdhaaDecC2
set_option linter.unusedVariables false
set_option linter.unusedSimpArgs false
namespace Go.Proofs.Ytgekmhcekkmdhaa
open Go.RowKit

theorem andNot1 (g : Nat) (h : g < 128) : bits .andNot .i64 (g : Int) 1 = (g : Int) - (g : Int) % 2 := by
  have : ∀ k : Fin 128, bits .andNot .i64 ((k.1 : Nat) : Int) 1 = ((k.1 : Nat) : Int) - ((k.1 : Nat) : Int) % 2 := by decide +kernel
  exact this ⟨g, h⟩
set_option maxHeartbeats 1000000 in
theorem kind_55 (x : Nat) (hx : x < 4294967296) (ho : fN x 6 0 = 55) (b : Nat) (w : World) (hb : b < w.heap.size) (hc : w.cell? ⟨b, 0, none⟩ = some (.int .u32 (x : Nat))) :
    Calls Try.prog 25 #[partV b] w fun e w' => e = .returned (kV (⟨1, 0, false⟩)) ∧ Grew w w' := by
  have ho' : ((fN x 6 0 : Nat) : Int) = 55 := by omega
  have HO := Lib.hid ho'
  clear ho ho'
  have bf := fN_lt x 14 12 8 (by decide)
  have bg := fN_lt x 31 25 128 (by decide)
  go_enter Try.func25, Try.ntmps25
  go_wp2_with fail
  refine (part_d x hx 14 12 (by decide) (by decide) (by decide) b _ (by go_simp)).mono ?_
  rintro e w1 ⟨rfl, n1, rfl⟩
  go_wp2_with fail
  refine (part_d x hx 31 25 (by decide) (by decide) (by decide) b _ (by go_simp)).mono ?_
  rintro e w2 ⟨rfl, n2, rfl⟩
  go_wp2_with fail
  refine (part_d x hx 6 0 (by decide) (by decide) (by decide) b _ (by go_simp)).mono ?_
  rintro e w3 ⟨rfl, n3, rfl⟩
  rw [HO.out]
  go_wp2_with fail
  go_returns
  exact ⟨rfl, (by repeat (first | with_reducible exact Grew.refl _ | with_reducible exact G4 | with_reducible refine Grew.alloc ?_ _ | with_reducible refine Grew.drewN ?_ _ | with_reducible refine Grew.setCell ?_ (by simp) _))⟩
set_option maxHeartbeats 1000000 in
theorem kind_23 (x : Nat) (hx : x < 4294967296) (ho : fN x 6 0 = 23) (b : Nat) (w : World) (hb : b < w.heap.size) (hc : w.cell? ⟨b, 0, none⟩ = some (.int .u32 (x : Nat))) :
    Calls Try.prog 25 #[partV b] w fun e w' => e = .returned (kV (⟨2, 0, false⟩)) ∧ Grew w w' := by
  have ho' : ((fN x 6 0 : Nat) : Int) = 23 := by omega
  have HO := Lib.hid ho'
  clear ho ho'
  have bf := fN_lt x 14 12 8 (by decide)
  have bg := fN_lt x 31 25 128 (by decide)
  go_enter Try.func25, Try.ntmps25
  go_wp2_with fail
  refine (part_d x hx 14 12 (by decide) (by decide) (by decide) b _ (by go_simp)).mono ?_
  rintro e w1 ⟨rfl, n1, rfl⟩
  go_wp2_with fail
  refine (part_d x hx 31 25 (by decide) (by decide) (by decide) b _ (by go_simp)).mono ?_
  rintro e w2 ⟨rfl, n2, rfl⟩
  go_wp2_with fail
  refine (part_d x hx 6 0 (by decide) (by decide) (by decide) b _ (by go_simp)).mono ?_
  rintro e w3 ⟨rfl, n3, rfl⟩
  rw [HO.out]
  go_wp2_with fail
  go_returns
  exact ⟨rfl, (by repeat (first | with_reducible exact Grew.refl _ | with_reducible exact G4 | with_reducible refine Grew.alloc ?_ _ | with_reducible refine Grew.drewN ?_ _ | with_reducible refine Grew.setCell ?_ (by simp) _))⟩
set_option maxHeartbeats 1000000 in
theorem kind_111 (x : Nat) (hx : x < 4294967296) (ho : fN x 6 0 = 111) (b : Nat) (w : World) (hb : b < w.heap.size) (hc : w.cell? ⟨b, 0, none⟩ = some (.int .u32 (x : Nat))) :
    Calls Try.prog 25 #[partV b] w fun e w' => e = .returned (kV (⟨3, 0, false⟩)) ∧ Grew w w' := by
  have ho' : ((fN x 6 0 : Nat) : Int) = 111 := by omega
  have HO := Lib.hid ho'
  clear ho ho'
  have bf := fN_lt x 14 12 8 (by decide)
  have bg := fN_lt x 31 25 128 (by decide)
  go_enter Try.func25, Try.ntmps25
  go_wp2_with fail
  refine (part_d x hx 14 12 (by decide) (by decide) (by decide) b _ (by go_simp)).mono ?_
  rintro e w1 ⟨rfl, n1, rfl⟩
  go_wp2_with fail
  refine (part_d x hx 31 25 (by decide) (by decide) (by decide) b _ (by go_simp)).mono ?_
  rintro e w2 ⟨rfl, n2, rfl⟩
  go_wp2_with fail
  refine (part_d x hx 6 0 (by decide) (by decide) (by decide) b _ (by go_simp)).mono ?_
  rintro e w3 ⟨rfl, n3, rfl⟩
  rw [HO.out]
  go_wp2_with fail
  go_returns
  exact ⟨rfl, (by repeat (first | with_reducible exact Grew.refl _ | with_reducible exact G4 | with_reducible refine Grew.alloc ?_ _ | with_reducible refine Grew.drewN ?_ _ | with_reducible refine Grew.setCell ?_ (by simp) _))⟩
set_option maxHeartbeats 1000000 in
theorem kind_103 (x : Nat) (hx : x < 4294967296) (ho : fN x 6 0 = 103) (b : Nat) (w : World) (hb : b < w.heap.size) (hc : w.cell? ⟨b, 0, none⟩ = some (.int .u32 (x : Nat))) :
    Calls Try.prog 25 #[partV b] w fun e w' => e = .returned (kV (kOn (((fN x 14 12 : Nat) : Int) == 0) 4 0 false)) ∧ Grew w w' := by
  have ho' : ((fN x 6 0 : Nat) : Int) = 103 := by omega
  have HO := Lib.hid ho'
  clear ho ho'
  have bf := fN_lt x 14 12 8 (by decide)
  have bg := fN_lt x 31 25 128 (by decide)
  go_enter Try.func25, Try.ntmps25
  go_wp2_with fail
  refine (part_d x hx 14 12 (by decide) (by decide) (by decide) b _ (by go_simp)).mono ?_
  rintro e w1 ⟨rfl, n1, rfl⟩
  go_wp2_with fail
  refine (part_d x hx 31 25 (by decide) (by decide) (by decide) b _ (by go_simp)).mono ?_
  rintro e w2 ⟨rfl, n2, rfl⟩
  go_wp2_with fail
  refine (part_d x hx 6 0 (by decide) (by decide) (by decide) b _ (by go_simp)).mono ?_
  rintro e w3 ⟨rfl, n3, rfl⟩
  rw [HO.out]
  go_wp2_with fail
  refine (only_c _ _ _ _ _).mono ?_
  rintro e w5 ⟨rfl, rfl⟩
  go_wp2_with fail
  go_returns
  exact ⟨rfl, (by repeat (first | with_reducible exact Grew.refl _ | with_reducible exact G4 | with_reducible refine Grew.alloc ?_ _ | with_reducible refine Grew.drewN ?_ _ | with_reducible refine Grew.setCell ?_ (by simp) _))⟩
set_option maxHeartbeats 1000000 in
theorem kind_99_2 (x : Nat) (hx : x < 4294967296) (ho : fN x 6 0 = 99) (hf : fN x 14 12 = 2) (b : Nat) (w : World) (hb : b < w.heap.size) (hc : w.cell? ⟨b, 0, none⟩ = some (.int .u32 (x : Nat))) :
    Calls Try.prog 25 #[partV b] w fun e w' => e = .returned (kV (kNo)) ∧ Grew w w' := by
  have ho' : ((fN x 6 0 : Nat) : Int) = 99 := by omega
  have HO := Lib.hid ho'
  clear ho ho'
  have hf' : ((fN x 14 12 : Nat) : Int) = 2 := by omega
  have HF := Lib.hid hf'
  clear hf hf'
  have bf := fN_lt x 14 12 8 (by decide)
  have bg := fN_lt x 31 25 128 (by decide)
  go_enter Try.func25, Try.ntmps25
  go_wp2_with fail
  refine (part_d x hx 14 12 (by decide) (by decide) (by decide) b _ (by go_simp)).mono ?_
  rintro e w1 ⟨rfl, n1, rfl⟩
  rw [HF.out]
  go_wp2_with fail
  refine (part_d x hx 31 25 (by decide) (by decide) (by decide) b _ (by go_simp)).mono ?_
  rintro e w2 ⟨rfl, n2, rfl⟩
  go_wp2_with fail
  refine (part_d x hx 6 0 (by decide) (by decide) (by decide) b _ (by go_simp)).mono ?_
  rintro e w3 ⟨rfl, n3, rfl⟩
  rw [HO.out]
  go_wp2_with fail
  refine (only_c _ _ _ _ _).mono ?_
  rintro e w5 ⟨rfl, rfl⟩
  go_wp2_with fail
  go_returns
  exact ⟨rfl, (by repeat (first | with_reducible exact Grew.refl _ | with_reducible exact G4 | with_reducible refine Grew.alloc ?_ _ | with_reducible refine Grew.drewN ?_ _ | with_reducible refine Grew.setCell ?_ (by simp) _))⟩
set_option maxHeartbeats 1000000 in
theorem kind_99_3 (x : Nat) (hx : x < 4294967296) (ho : fN x 6 0 = 99) (hf : fN x 14 12 = 3) (b : Nat) (w : World) (hb : b < w.heap.size) (hc : w.cell? ⟨b, 0, none⟩ = some (.int .u32 (x : Nat))) :
    Calls Try.prog 25 #[partV b] w fun e w' => e = .returned (kV (kNo)) ∧ Grew w w' := by
  have ho' : ((fN x 6 0 : Nat) : Int) = 99 := by omega
  have HO := Lib.hid ho'
  clear ho ho'
  have hf' : ((fN x 14 12 : Nat) : Int) = 3 := by omega
  have HF := Lib.hid hf'
  clear hf hf'
  have bf := fN_lt x 14 12 8 (by decide)
  have bg := fN_lt x 31 25 128 (by decide)
  go_enter Try.func25, Try.ntmps25
  go_wp2_with fail
  refine (part_d x hx 14 12 (by decide) (by decide) (by decide) b _ (by go_simp)).mono ?_
  rintro e w1 ⟨rfl, n1, rfl⟩
  rw [HF.out]
  go_wp2_with fail
  refine (part_d x hx 31 25 (by decide) (by decide) (by decide) b _ (by go_simp)).mono ?_
  rintro e w2 ⟨rfl, n2, rfl⟩
  go_wp2_with fail
  refine (part_d x hx 6 0 (by decide) (by decide) (by decide) b _ (by go_simp)).mono ?_
  rintro e w3 ⟨rfl, n3, rfl⟩
  rw [HO.out]
  go_wp2_with fail
  refine (only_c _ _ _ _ _).mono ?_
  rintro e w5 ⟨rfl, rfl⟩
  go_wp2_with fail
  go_returns
  exact ⟨rfl, (by repeat (first | with_reducible exact Grew.refl _ | with_reducible exact G4 | with_reducible refine Grew.alloc ?_ _ | with_reducible refine Grew.drewN ?_ _ | with_reducible refine Grew.setCell ?_ (by simp) _))⟩
set_option maxHeartbeats 1000000 in
theorem kind_99_o (x : Nat) (hx : x < 4294967296) (ho : fN x 6 0 = 99) (h2 : ¬ ((fN x 14 12 : Nat) : Int) = 2) (h3 : ¬ ((fN x 14 12 : Nat) : Int) = 3) (b : Nat) (w : World) (hb : b < w.heap.size) (hc : w.cell? ⟨b, 0, none⟩ = some (.int .u32 (x : Nat))) :
    Calls Try.prog 25 #[partV b] w fun e w' => e = .returned (kV (kOn (((fN x 14 12 : Nat) : Int) != 2 && ((fN x 14 12 : Nat) : Int) != 3) 5 ((fN x 14 12 : Nat) : Int) false)) ∧ Grew w w' := by
  have ho' : ((fN x 6 0 : Nat) : Int) = 99 := by omega
  have HO := Lib.hid ho'
  clear ho ho'
  have bf := fN_lt x 14 12 8 (by decide)
  have bg := fN_lt x 31 25 128 (by decide)
  go_enter Try.func25, Try.ntmps25
  go_wp2_with fail
  refine (part_d x hx 14 12 (by decide) (by decide) (by decide) b _ (by go_simp)).mono ?_
  rintro e w1 ⟨rfl, n1, rfl⟩
  go_wp2_with fail
  refine (part_d x hx 31 25 (by decide) (by decide) (by decide) b _ (by go_simp)).mono ?_
  rintro e w2 ⟨rfl, n2, rfl⟩
  go_wp2_with fail
  refine (part_d x hx 6 0 (by decide) (by decide) (by decide) b _ (by go_simp)).mono ?_
  rintro e w3 ⟨rfl, n3, rfl⟩
  rw [HO.out]
  go_wp2_with fail
  refine (only_c _ _ _ _ _).mono ?_
  rintro e w5 ⟨rfl, rfl⟩
  go_wp2_with fail
  go_returns
  exact ⟨rfl, (by repeat (first | with_reducible exact Grew.refl _ | with_reducible exact G4 | with_reducible refine Grew.alloc ?_ _ | with_reducible refine Grew.drewN ?_ _ | with_reducible refine Grew.setCell ?_ (by simp) _))⟩
theorem kind_99 (x : Nat) (hx : x < 4294967296) (ho : fN x 6 0 = 99) (b : Nat) (w : World) (hb : b < w.heap.size) (hc : w.cell? ⟨b, 0, none⟩ = some (.int .u32 (x : Nat))) :
    Calls Try.prog 25 #[partV b] w fun e w' => e = .returned (kV (kOn (((fN x 14 12 : Nat) : Int) != 2 && ((fN x 14 12 : Nat) : Int) != 3) 5 ((fN x 14 12 : Nat) : Int) false)) ∧ Grew w w' := by
  by_cases h2 : fN x 14 12 = 2
  · rw [show kOn (((fN x 14 12 : Nat) : Int) != 2 && ((fN x 14 12 : Nat) : Int) != 3) 5 ((fN x 14 12 : Nat) : Int) false = kNo by rw [h2]; rfl]
    exact kind_99_2 x hx ho h2 b w hb hc
  · by_cases h3 : fN x 14 12 = 3
    · rw [show kOn (((fN x 14 12 : Nat) : Int) != 2 && ((fN x 14 12 : Nat) : Int) != 3) 5 ((fN x 14 12 : Nat) : Int) false = kNo by rw [h3]; rfl]
      exact kind_99_3 x hx ho h3 b w hb hc
    · exact kind_99_o x hx ho (by omega) (by omega) b w hb hc
set_option maxHeartbeats 1000000 in
theorem kind_3 (x : Nat) (hx : x < 4294967296) (ho : fN x 6 0 = 3) (b : Nat) (w : World) (hb : b < w.heap.size) (hc : w.cell? ⟨b, 0, none⟩ = some (.int .u32 (x : Nat))) :
    Calls Try.prog 25 #[partV b] w fun e w' => e = .returned (kV (kOn (((fN x 14 12 : Nat) : Int) != 7) 6 ((fN x 14 12 : Nat) : Int) false)) ∧ Grew w w' := by
  have ho' : ((fN x 6 0 : Nat) : Int) = 3 := by omega
  have HO := Lib.hid ho'
  clear ho ho'
  have bf := fN_lt x 14 12 8 (by decide)
  have bg := fN_lt x 31 25 128 (by decide)
  go_enter Try.func25, Try.ntmps25
  go_wp2_with fail
  refine (part_d x hx 14 12 (by decide) (by decide) (by decide) b _ (by go_simp)).mono ?_
  rintro e w1 ⟨rfl, n1, rfl⟩
  go_wp2_with fail
  refine (part_d x hx 31 25 (by decide) (by decide) (by decide) b _ (by go_simp)).mono ?_
  rintro e w2 ⟨rfl, n2, rfl⟩
  go_wp2_with fail
  refine (part_d x hx 6 0 (by decide) (by decide) (by decide) b _ (by go_simp)).mono ?_
  rintro e w3 ⟨rfl, n3, rfl⟩
  rw [HO.out]
  go_wp2_with fail
  refine (only_c _ _ _ _ _).mono ?_
  rintro e w5 ⟨rfl, rfl⟩
  go_wp2_with fail
  go_returns
  exact ⟨rfl, (by repeat (first | with_reducible exact Grew.refl _ | with_reducible exact G4 | with_reducible refine Grew.alloc ?_ _ | with_reducible refine Grew.drewN ?_ _ | with_reducible refine Grew.setCell ?_ (by simp) _))⟩
set_option maxHeartbeats 1000000 in
theorem kind_35 (x : Nat) (hx : x < 4294967296) (ho : fN x 6 0 = 35) (b : Nat) (w : World) (hb : b < w.heap.size) (hc : w.cell? ⟨b, 0, none⟩ = some (.int .u32 (x : Nat))) :
    Calls Try.prog 25 #[partV b] w fun e w' => e = .returned (kV (kOn (decide (((fN x 14 12 : Nat) : Int) ≤ 3)) 7 ((fN x 14 12 : Nat) : Int) false)) ∧ Grew w w' := by
  have ho' : ((fN x 6 0 : Nat) : Int) = 35 := by omega
  have HO := Lib.hid ho'
  clear ho ho'
  have bf := fN_lt x 14 12 8 (by decide)
  have bg := fN_lt x 31 25 128 (by decide)
  go_enter Try.func25, Try.ntmps25
  go_wp2_with fail
  refine (part_d x hx 14 12 (by decide) (by decide) (by decide) b _ (by go_simp)).mono ?_
  rintro e w1 ⟨rfl, n1, rfl⟩
  go_wp2_with fail
  refine (part_d x hx 31 25 (by decide) (by decide) (by decide) b _ (by go_simp)).mono ?_
  rintro e w2 ⟨rfl, n2, rfl⟩
  go_wp2_with fail
  refine (part_d x hx 6 0 (by decide) (by decide) (by decide) b _ (by go_simp)).mono ?_
  rintro e w3 ⟨rfl, n3, rfl⟩
  rw [HO.out]
  go_wp2_with fail
  refine (only_c _ _ _ _ _).mono ?_
  rintro e w5 ⟨rfl, rfl⟩
  go_wp2_with fail
  go_returns
  exact ⟨rfl, (by repeat (first | with_reducible exact Grew.refl _ | with_reducible exact G4 | with_reducible refine Grew.alloc ?_ _ | with_reducible refine Grew.drewN ?_ _ | with_reducible refine Grew.setCell ?_ (by simp) _))⟩
set_option maxHeartbeats 1000000 in
theorem kind_15 (x : Nat) (hx : x < 4294967296) (ho : fN x 6 0 = 15) (b : Nat) (w : World) (hb : b < w.heap.size) (hc : w.cell? ⟨b, 0, none⟩ = some (.int .u32 (x : Nat))) :
    Calls Try.prog 25 #[partV b] w fun e w' => e = .returned (kV (kOn (decide (((fN x 14 12 : Nat) : Int) ≤ 1)) 10 ((fN x 14 12 : Nat) : Int) false)) ∧ Grew w w' := by
  have ho' : ((fN x 6 0 : Nat) : Int) = 15 := by omega
  have HO := Lib.hid ho'
  clear ho ho'
  have bf := fN_lt x 14 12 8 (by decide)
  have bg := fN_lt x 31 25 128 (by decide)
  go_enter Try.func25, Try.ntmps25
  go_wp2_with fail
  refine (part_d x hx 14 12 (by decide) (by decide) (by decide) b _ (by go_simp)).mono ?_
  rintro e w1 ⟨rfl, n1, rfl⟩
  go_wp2_with fail
  refine (part_d x hx 31 25 (by decide) (by decide) (by decide) b _ (by go_simp)).mono ?_
  rintro e w2 ⟨rfl, n2, rfl⟩
  go_wp2_with fail
  refine (part_d x hx 6 0 (by decide) (by decide) (by decide) b _ (by go_simp)).mono ?_
  rintro e w3 ⟨rfl, n3, rfl⟩
  rw [HO.out]
  go_wp2_with fail
  refine (only_c _ _ _ _ _).mono ?_
  rintro e w5 ⟨rfl, rfl⟩
  go_wp2_with fail
  go_returns
  exact ⟨rfl, (by repeat (first | with_reducible exact Grew.refl _ | with_reducible exact G4 | with_reducible refine Grew.alloc ?_ _ | with_reducible refine Grew.drewN ?_ _ | with_reducible refine Grew.setCell ?_ (by simp) _))⟩
set_option maxHeartbeats 1000000 in
theorem kind_19 (x : Nat) (hx : x < 4294967296) (ho : fN x 6 0 = 19) (b : Nat) (w : World) (hb : b < w.heap.size) (hc : w.cell? ⟨b, 0, none⟩ = some (.int .u32 (x : Nat))) :
    Calls Try.prog 25 #[partV b] w fun e w' => e = .returned (kV (kImm ((fN x 14 12 : Nat) : Int) (((fN x 31 25 : Nat) : Int) - ((fN x 31 25 : Nat) : Int) % 2) false)) ∧ Grew w w' := by
  have ho' : ((fN x 6 0 : Nat) : Int) = 19 := by omega
  have HO := Lib.hid ho'
  clear ho ho'
  have bf := fN_lt x 14 12 8 (by decide)
  have hN := andNot1 (fN x 31 25) (fN_lt x 31 25 128 (by decide))
  have bg := fN_lt x 31 25 128 (by decide)
  go_enter Try.func25, Try.ntmps25
  go_wp2_with fail
  refine (part_d x hx 14 12 (by decide) (by decide) (by decide) b _ (by go_simp)).mono ?_
  rintro e w1 ⟨rfl, n1, rfl⟩
  go_wp2_with fail
  refine (part_d x hx 31 25 (by decide) (by decide) (by decide) b _ (by go_simp)).mono ?_
  rintro e w2 ⟨rfl, n2, rfl⟩
  go_wp2_with fail
  refine (part_d x hx 6 0 (by decide) (by decide) (by decide) b _ (by go_simp)).mono ?_
  rintro e w3 ⟨rfl, n3, rfl⟩
  rw [HO.out]
  go_wp2_with fail
  refine (immKind_c _ _ _ (by omega) (by omega) _).mono ?_
  rintro e w4 ⟨rfl, g4⟩
  obtain ⟨hc4, hf4⟩ := gcell g4
  have hs4 := g4.size
  simp at hs4
  have hs5 : w.heap.size < w4.heap.size := by omega
  have G4 : Grew w w4 := (((Grew.refl w).alloc _).drewN _).trans g4
  go_wp2_with fail
  refine bodyPost_ret (v := kV (kImm ((fN x 14 12 : Nat) : Int) (((fN x 31 25 : Nat) : Int) - ((fN x 31 25 : Nat) : Int) % 2) false)) (by simp [results, Try.results25, go_sem, hc4, hs5]) rfl ⟨rfl, (((((((G4.setCell (Nat.le_refl _) _).setCell (Nat.le_refl _) _).setCell (Nat.le_refl _) _).setCell (Nat.le_refl _) _).setCell (Nat.le_refl _) _).setCell (Nat.le_refl _) _).setCell (Nat.le_refl _) _)⟩
set_option maxHeartbeats 1000000 in
theorem kind_27 (x : Nat) (hx : x < 4294967296) (ho : fN x 6 0 = 27) (b : Nat) (w : World) (hb : b < w.heap.size) (hc : w.cell? ⟨b, 0, none⟩ = some (.int .u32 (x : Nat))) :
    Calls Try.prog 25 #[partV b] w fun e w' => e = .returned (kV (kImm ((fN x 14 12 : Nat) : Int) ((fN x 31 25 : Nat) : Int) true)) ∧ Grew w w' := by
  have ho' : ((fN x 6 0 : Nat) : Int) = 27 := by omega
  have HO := Lib.hid ho'
  clear ho ho'
  have bf := fN_lt x 14 12 8 (by decide)
  have bg := fN_lt x 31 25 128 (by decide)
  go_enter Try.func25, Try.ntmps25
  go_wp2_with fail
  refine (part_d x hx 14 12 (by decide) (by decide) (by decide) b _ (by go_simp)).mono ?_
  rintro e w1 ⟨rfl, n1, rfl⟩
  go_wp2_with fail
  refine (part_d x hx 31 25 (by decide) (by decide) (by decide) b _ (by go_simp)).mono ?_
  rintro e w2 ⟨rfl, n2, rfl⟩
  go_wp2_with fail
  refine (part_d x hx 6 0 (by decide) (by decide) (by decide) b _ (by go_simp)).mono ?_
  rintro e w3 ⟨rfl, n3, rfl⟩
  rw [HO.out]
  go_wp2_with fail
  refine (immKind_c _ _ _ (by omega) (by omega) _).mono ?_
  rintro e w4 ⟨rfl, g4⟩
  obtain ⟨hc4, hf4⟩ := gcell g4
  have hs4 := g4.size
  simp at hs4
  have hs5 : w.heap.size < w4.heap.size := by omega
  have G4 : Grew w w4 := (((Grew.refl w).alloc _).drewN _).trans g4
  go_wp2_with fail
  refine bodyPost_ret (v := kV (kImm ((fN x 14 12 : Nat) : Int) ((fN x 31 25 : Nat) : Int) true)) (by simp [results, Try.results25, go_sem, hc4, hs5]) rfl ⟨rfl, (((((((G4.setCell (Nat.le_refl _) _).setCell (Nat.le_refl _) _).setCell (Nat.le_refl _) _).setCell (Nat.le_refl _) _).setCell (Nat.le_refl _) _).setCell (Nat.le_refl _) _).setCell (Nat.le_refl _) _)⟩
set_option maxHeartbeats 1000000 in
theorem kind_51 (x : Nat) (hx : x < 4294967296) (ho : fN x 6 0 = 51) (b : Nat) (w : World) (hb : b < w.heap.size) (hc : w.cell? ⟨b, 0, none⟩ = some (.int .u32 (x : Nat))) :
    Calls Try.prog 25 #[partV b] w fun e w' => e = .returned (kV (kReg ((fN x 14 12 : Nat) : Int) ((fN x 31 25 : Nat) : Int) false)) ∧ Grew w w' := by
  have ho' : ((fN x 6 0 : Nat) : Int) = 51 := by omega
  have HO := Lib.hid ho'
  clear ho ho'
  have bf := fN_lt x 14 12 8 (by decide)
  have bg := fN_lt x 31 25 128 (by decide)
  go_enter Try.func25, Try.ntmps25
  go_wp2_with fail
  refine (part_d x hx 14 12 (by decide) (by decide) (by decide) b _ (by go_simp)).mono ?_
  rintro e w1 ⟨rfl, n1, rfl⟩
  go_wp2_with fail
  refine (part_d x hx 31 25 (by decide) (by decide) (by decide) b _ (by go_simp)).mono ?_
  rintro e w2 ⟨rfl, n2, rfl⟩
  go_wp2_with fail
  refine (part_d x hx 6 0 (by decide) (by decide) (by decide) b _ (by go_simp)).mono ?_
  rintro e w3 ⟨rfl, n3, rfl⟩
  rw [HO.out]
  go_wp2_with fail
  refine (regKind_c _ _ _ (by omega) _).mono ?_
  rintro e w4 ⟨rfl, g4⟩
  obtain ⟨hc4, hf4⟩ := gcell g4
  have hs4 := g4.size
  simp at hs4
  have hs5 : w.heap.size < w4.heap.size := by omega
  have G4 : Grew w w4 := (((Grew.refl w).alloc _).drewN _).trans g4
  go_wp2_with fail
  refine bodyPost_ret (v := kV (kReg ((fN x 14 12 : Nat) : Int) ((fN x 31 25 : Nat) : Int) false)) (by simp [results, Try.results25, go_sem, hc4, hs5]) rfl ⟨rfl, (((((((G4.setCell (Nat.le_refl _) _).setCell (Nat.le_refl _) _).setCell (Nat.le_refl _) _).setCell (Nat.le_refl _) _).setCell (Nat.le_refl _) _).setCell (Nat.le_refl _) _).setCell (Nat.le_refl _) _)⟩
set_option maxHeartbeats 1000000 in
theorem kind_59 (x : Nat) (hx : x < 4294967296) (ho : fN x 6 0 = 59) (b : Nat) (w : World) (hb : b < w.heap.size) (hc : w.cell? ⟨b, 0, none⟩ = some (.int .u32 (x : Nat))) :
    Calls Try.prog 25 #[partV b] w fun e w' => e = .returned (kV (kReg ((fN x 14 12 : Nat) : Int) ((fN x 31 25 : Nat) : Int) true)) ∧ Grew w w' := by
  have ho' : ((fN x 6 0 : Nat) : Int) = 59 := by omega
  have HO := Lib.hid ho'
  clear ho ho'
  have bf := fN_lt x 14 12 8 (by decide)
  have bg := fN_lt x 31 25 128 (by decide)
  go_enter Try.func25, Try.ntmps25
  go_wp2_with fail
  refine (part_d x hx 14 12 (by decide) (by decide) (by decide) b _ (by go_simp)).mono ?_
  rintro e w1 ⟨rfl, n1, rfl⟩
  go_wp2_with fail
  refine (part_d x hx 31 25 (by decide) (by decide) (by decide) b _ (by go_simp)).mono ?_
  rintro e w2 ⟨rfl, n2, rfl⟩
  go_wp2_with fail
  refine (part_d x hx 6 0 (by decide) (by decide) (by decide) b _ (by go_simp)).mono ?_
  rintro e w3 ⟨rfl, n3, rfl⟩
  rw [HO.out]
  go_wp2_with fail
  refine (regKind_c _ _ _ (by omega) _).mono ?_
  rintro e w4 ⟨rfl, g4⟩
  obtain ⟨hc4, hf4⟩ := gcell g4
  have hs4 := g4.size
  simp at hs4
  have hs5 : w.heap.size < w4.heap.size := by omega
  have G4 : Grew w w4 := (((Grew.refl w).alloc _).drewN _).trans g4
  go_wp2_with fail
  refine bodyPost_ret (v := kV (kReg ((fN x 14 12 : Nat) : Int) ((fN x 31 25 : Nat) : Int) true)) (by simp [results, Try.results25, go_sem, hc4, hs5]) rfl ⟨rfl, (((((((G4.setCell (Nat.le_refl _) _).setCell (Nat.le_refl _) _).setCell (Nat.le_refl _) _).setCell (Nat.le_refl _) _).setCell (Nat.le_refl _) _).setCell (Nat.le_refl _) _).setCell (Nat.le_refl _) _)⟩
set_option maxHeartbeats 1000000 in
theorem kind_115 (x : Nat) (hx : x < 4294967296) (ho : fN x 6 0 = 115) (b : Nat) (w : World) (hb : b < w.heap.size) (hc : w.cell? ⟨b, 0, none⟩ = some (.int .u32 (x : Nat))) :
    Calls Try.prog 25 #[partV b] w fun e w' => e = .returned (kV (kSys x ((fN x 14 12 : Nat) : Int) ((fN x 31 25 : Nat) : Int))) ∧ Grew w w' := by
  have ho' : ((fN x 6 0 : Nat) : Int) = 115 := by omega
  have HO := Lib.hid ho'
  clear ho ho'
  have bf := fN_lt x 14 12 8 (by decide)
  have bg := fN_lt x 31 25 128 (by decide)
  go_enter Try.func25, Try.ntmps25
  go_wp2_with fail
  refine (part_d x hx 14 12 (by decide) (by decide) (by decide) b _ (by go_simp)).mono ?_
  rintro e w1 ⟨rfl, n1, rfl⟩
  go_wp2_with fail
  refine (part_d x hx 31 25 (by decide) (by decide) (by decide) b _ (by go_simp)).mono ?_
  rintro e w2 ⟨rfl, n2, rfl⟩
  go_wp2_with fail
  refine (part_d x hx 6 0 (by decide) (by decide) (by decide) b _ (by go_simp)).mono ?_
  rintro e w3 ⟨rfl, n3, rfl⟩
  rw [HO.out]
  go_wp2_with fail
  refine (systemKind_c x hx _ _ b _ (by simp; omega) (by go_simp)).mono ?_
  rintro e w4 ⟨rfl, g4⟩
  obtain ⟨hc4, hf4⟩ := gcell g4
  have hs4 := g4.size
  simp at hs4
  have hs5 : w.heap.size < w4.heap.size := by omega
  have G4 : Grew w w4 := (((Grew.refl w).alloc _).drewN _).trans g4
  go_wp2_with fail
  refine bodyPost_ret (v := kV (kSys x ((fN x 14 12 : Nat) : Int) ((fN x 31 25 : Nat) : Int))) (by simp [results, Try.results25, go_sem, hc4, hs5]) rfl ⟨rfl, (((((((G4.setCell (Nat.le_refl _) _).setCell (Nat.le_refl _) _).setCell (Nat.le_refl _) _).setCell (Nat.le_refl _) _).setCell (Nat.le_refl _) _).setCell (Nat.le_refl _) _).setCell (Nat.le_refl _) _)⟩
set_option maxHeartbeats 1000000 in
theorem kind_47 (x : Nat) (hx : x < 4294967296) (ho : fN x 6 0 = 47) (b : Nat) (w : World) (hb : b < w.heap.size) (hc : w.cell? ⟨b, 0, none⟩ = some (.int .u32 (x : Nat))) :
    Calls Try.prog 25 #[partV b] w fun e w' => e = .returned (kV (kAmo x ((fN x 14 12 : Nat) : Int))) ∧ Grew w w' := by
  have ho' : ((fN x 6 0 : Nat) : Int) = 47 := by omega
  have HO := Lib.hid ho'
  clear ho ho'
  have bf := fN_lt x 14 12 8 (by decide)
  have bg := fN_lt x 31 25 128 (by decide)
  go_enter Try.func25, Try.ntmps25
  go_wp2_with fail
  refine (part_d x hx 14 12 (by decide) (by decide) (by decide) b _ (by go_simp)).mono ?_
  rintro e w1 ⟨rfl, n1, rfl⟩
  go_wp2_with fail
  refine (part_d x hx 31 25 (by decide) (by decide) (by decide) b _ (by go_simp)).mono ?_
  rintro e w2 ⟨rfl, n2, rfl⟩
  go_wp2_with fail
  refine (part_d x hx 6 0 (by decide) (by decide) (by decide) b _ (by go_simp)).mono ?_
  rintro e w3 ⟨rfl, n3, rfl⟩
  rw [HO.out]
  go_wp2_with fail
  refine (amoKind_c x hx _ b _ (by simp; omega) (by go_simp)).mono ?_
  rintro e w4 ⟨rfl, g4⟩
  obtain ⟨hc4, hf4⟩ := gcell g4
  have hs4 := g4.size
  simp at hs4
  have hs5 : w.heap.size < w4.heap.size := by omega
  have G4 : Grew w w4 := (((Grew.refl w).alloc _).drewN _).trans g4
  go_wp2_with fail
  refine bodyPost_ret (v := kV (kAmo x ((fN x 14 12 : Nat) : Int))) (by simp [results, Try.results25, go_sem, hc4, hs5]) rfl ⟨rfl, (((((((G4.setCell (Nat.le_refl _) _).setCell (Nat.le_refl _) _).setCell (Nat.le_refl _) _).setCell (Nat.le_refl _) _).setCell (Nat.le_refl _) _).setCell (Nat.le_refl _) _).setCell (Nat.le_refl _) _)⟩
set_option maxHeartbeats 1000000 in
theorem kind_no (x : Nat) (hx : x < 4294967296) (h55 : ¬ ((fN x 6 0 : Nat) : Int) = 55) (h23 : ¬ ((fN x 6 0 : Nat) : Int) = 23) (h111 : ¬ ((fN x 6 0 : Nat) : Int) = 111) (h103 : ¬ ((fN x 6 0 : Nat) : Int) = 103) (h99 : ¬ ((fN x 6 0 : Nat) : Int) = 99) (h3 : ¬ ((fN x 6 0 : Nat) : Int) = 3) (h35 : ¬ ((fN x 6 0 : Nat) : Int) = 35) (h19 : ¬ ((fN x 6 0 : Nat) : Int) = 19) (h27 : ¬ ((fN x 6 0 : Nat) : Int) = 27) (h51 : ¬ ((fN x 6 0 : Nat) : Int) = 51) (h59 : ¬ ((fN x 6 0 : Nat) : Int) = 59) (h15 : ¬ ((fN x 6 0 : Nat) : Int) = 15) (h115 : ¬ ((fN x 6 0 : Nat) : Int) = 115) (h47 : ¬ ((fN x 6 0 : Nat) : Int) = 47) (b : Nat) (w : World) (hb : b < w.heap.size) (hc : w.cell? ⟨b, 0, none⟩ = some (.int .u32 (x : Nat))) :
    Calls Try.prog 25 #[partV b] w fun e w' => e = .returned (kV (kNo)) ∧ Grew w w' := by
  have bf := fN_lt x 14 12 8 (by decide)
  have bg := fN_lt x 31 25 128 (by decide)
  go_enter Try.func25, Try.ntmps25
  go_wp2_with fail
  refine (part_d x hx 14 12 (by decide) (by decide) (by decide) b _ (by go_simp)).mono ?_
  rintro e w1 ⟨rfl, n1, rfl⟩
  go_wp2_with fail
  refine (part_d x hx 31 25 (by decide) (by decide) (by decide) b _ (by go_simp)).mono ?_
  rintro e w2 ⟨rfl, n2, rfl⟩
  go_wp2_with fail
  refine (part_d x hx 6 0 (by decide) (by decide) (by decide) b _ (by go_simp)).mono ?_
  rintro e w3 ⟨rfl, n3, rfl⟩
  go_wp2_with fail
  go_returns
  exact ⟨rfl, (by repeat (first | with_reducible exact Grew.refl _ | with_reducible exact G4 | with_reducible refine Grew.alloc ?_ _ | with_reducible refine Grew.drewN ?_ _ | with_reducible refine Grew.setCell ?_ (by simp) _))⟩
set_option maxHeartbeats 1000000 in
theorem kindOf_c (x : Nat) (hx : x < 4294967296) (b : Nat) (w : World) (hb : b < w.heap.size) (hc : w.cell? ⟨b, 0, none⟩ = some (.int .u32 (x : Nat))) :
    Calls Try.prog 25 #[partV b] w fun e w' => e = .returned (kV (kOf x)) ∧ Grew w w' := by
  by_cases h55 : fN x 6 0 = 55
  · rw [show kOf x = ⟨1, 0, false⟩ by unfold kOf kF; rw [if_pos h55]]
    exact kind_55 x hx h55 b w hb hc
  · skip
    by_cases h23 : fN x 6 0 = 23
    · rw [show kOf x = ⟨2, 0, false⟩ by unfold kOf kF; rw [if_neg h55, if_pos h23]]
      exact kind_23 x hx h23 b w hb hc
    · skip
      by_cases h111 : fN x 6 0 = 111
      · rw [show kOf x = ⟨3, 0, false⟩ by unfold kOf kF; rw [if_neg h55, if_neg h23, if_pos h111]]
        exact kind_111 x hx h111 b w hb hc
      · skip
        by_cases h103 : fN x 6 0 = 103
        · rw [show kOf x = kOn (((fN x 14 12 : Nat) : Int) == 0) 4 0 false by unfold kOf kF; rw [if_neg h55, if_neg h23, if_neg h111, if_pos h103]]
          exact kind_103 x hx h103 b w hb hc
        · skip
          by_cases h99 : fN x 6 0 = 99
          · rw [show kOf x = kOn (((fN x 14 12 : Nat) : Int) != 2 && ((fN x 14 12 : Nat) : Int) != 3) 5 ((fN x 14 12 : Nat) : Int) false by unfold kOf kF; rw [if_neg h55, if_neg h23, if_neg h111, if_neg h103, if_pos h99]]
            exact kind_99 x hx h99 b w hb hc
          · skip
            by_cases h3 : fN x 6 0 = 3
            · rw [show kOf x = kOn (((fN x 14 12 : Nat) : Int) != 7) 6 ((fN x 14 12 : Nat) : Int) false by unfold kOf kF; rw [if_neg h55, if_neg h23, if_neg h111, if_neg h103, if_neg h99, if_pos h3]]
              exact kind_3 x hx h3 b w hb hc
            · skip
              by_cases h35 : fN x 6 0 = 35
              · rw [show kOf x = kOn (decide (((fN x 14 12 : Nat) : Int) ≤ 3)) 7 ((fN x 14 12 : Nat) : Int) false by unfold kOf kF; rw [if_neg h55, if_neg h23, if_neg h111, if_neg h103, if_neg h99, if_neg h3, if_pos h35]]
                exact kind_35 x hx h35 b w hb hc
              · skip
                by_cases h19 : fN x 6 0 = 19
                · rw [show kOf x = kImm ((fN x 14 12 : Nat) : Int) (((fN x 31 25 : Nat) : Int) - ((fN x 31 25 : Nat) : Int) % 2) false by unfold kOf kF; rw [if_neg h55, if_neg h23, if_neg h111, if_neg h103, if_neg h99, if_neg h3, if_neg h35, if_pos h19]]
                  exact kind_19 x hx h19 b w hb hc
                · skip
                  by_cases h27 : fN x 6 0 = 27
                  · rw [show kOf x = kImm ((fN x 14 12 : Nat) : Int) ((fN x 31 25 : Nat) : Int) true by unfold kOf kF; rw [if_neg h55, if_neg h23, if_neg h111, if_neg h103, if_neg h99, if_neg h3, if_neg h35, if_neg h19, if_pos h27]]
                    exact kind_27 x hx h27 b w hb hc
                  · skip
                    by_cases h51 : fN x 6 0 = 51
                    · rw [show kOf x = kReg ((fN x 14 12 : Nat) : Int) ((fN x 31 25 : Nat) : Int) false by unfold kOf kF; rw [if_neg h55, if_neg h23, if_neg h111, if_neg h103, if_neg h99, if_neg h3, if_neg h35, if_neg h19, if_neg h27, if_pos h51]]
                      exact kind_51 x hx h51 b w hb hc
                    · skip
                      by_cases h59 : fN x 6 0 = 59
                      · rw [show kOf x = kReg ((fN x 14 12 : Nat) : Int) ((fN x 31 25 : Nat) : Int) true by unfold kOf kF; rw [if_neg h55, if_neg h23, if_neg h111, if_neg h103, if_neg h99, if_neg h3, if_neg h35, if_neg h19, if_neg h27, if_neg h51, if_pos h59]]
                        exact kind_59 x hx h59 b w hb hc
                      · skip
                        by_cases h15 : fN x 6 0 = 15
                        · rw [show kOf x = kOn (decide (((fN x 14 12 : Nat) : Int) ≤ 1)) 10 ((fN x 14 12 : Nat) : Int) false by unfold kOf kF; rw [if_neg h55, if_neg h23, if_neg h111, if_neg h103, if_neg h99, if_neg h3, if_neg h35, if_neg h19, if_neg h27, if_neg h51, if_neg h59, if_pos h15]]
                          exact kind_15 x hx h15 b w hb hc
                        · skip
                          by_cases h115 : fN x 6 0 = 115
                          · rw [show kOf x = kSys x ((fN x 14 12 : Nat) : Int) ((fN x 31 25 : Nat) : Int) by unfold kOf kF; rw [if_neg h55, if_neg h23, if_neg h111, if_neg h103, if_neg h99, if_neg h3, if_neg h35, if_neg h19, if_neg h27, if_neg h51, if_neg h59, if_neg h15, if_pos h115]]
                            exact kind_115 x hx h115 b w hb hc
                          · skip
                            by_cases h47 : fN x 6 0 = 47
                            · rw [show kOf x = kAmo x ((fN x 14 12 : Nat) : Int) by unfold kOf kF; rw [if_neg h55, if_neg h23, if_neg h111, if_neg h103, if_neg h99, if_neg h3, if_neg h35, if_neg h19, if_neg h27, if_neg h51, if_neg h59, if_neg h15, if_neg h115, if_pos h47]]
                              exact kind_47 x hx h47 b w hb hc
                            · skip
                              rw [show kOf x = kNo by unfold kOf kF; rw [if_neg h55, if_neg h23, if_neg h111, if_neg h103, if_neg h99, if_neg h3, if_neg h35, if_neg h19, if_neg h27, if_neg h51, if_neg h59, if_neg h15, if_neg h115, if_neg h47]]
                              exact kind_no x hx (by omega) (by omega) (by omega) (by omega) (by omega) (by omega) (by omega) (by omega) (by omega) (by omega) (by omega) (by omega) (by omega) (by omega) b w hb hc
end Go.Proofs.Ytgekmhcekkmdhaa
