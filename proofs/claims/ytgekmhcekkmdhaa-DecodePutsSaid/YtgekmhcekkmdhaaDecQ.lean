/-
  Every row of the document's decode is package decode's; the document's Decode answers what package decode's does.
-/
import Derived.Test.YtgekmhcekkmdhaaDecX
import Derived.Test.YtgekmhcekkmdhaaDecW
import Derived.Test.YtgekmhcekkmdhaaDecW1
import Derived.Test.YtgekmhcekkmdhaaDecW2
import Derived.Test.YtgekmhcekkmdhaaDecW3
import Derived.Test.YtgekmhcekkmdhaaDecW4
set_option linter.unusedVariables false
set_option linter.unusedSimpArgs false
namespace Go.Proofs.Ytgekmhcekkmdhaa
open Go Go.RowKit

/-- What Decode answers of a word of that kind. -/
def decK (x : Nat) (c f : Int) (d : Bool) : Ins := ⟨c, f, d, (regN (shp c f).rd x 11 7 : Nat), (regN (shp c f).rs1 x 19 15 : Nat), (regN (shp c f).rs2 x 24 20 : Nat), immN (shp c f) x⟩
def Row (x : Nat) : Prop := ∃ (I : Ins) (ok : Bool), (∀ w : World, Calls Try.prog 28 #[.int .u32 (x : Nat)] w fun e w' => e = .returned (.tuple #[iV I, .bool ok]) ∧ Grew w w') ∧ ok = !noB (kOf x) ∧ (ok = true → I = decI x)
theorem noB_kd (c f : Int) (d : Bool) (hc : c ≠ 0) : noB ⟨c, f, d⟩ = false := by
  unfold noB eqI noI
  rw [show (c == 0) = false by simpa using hc]
  rfl
theorem Row.at' {x : Nat} {c f : Int} {d : Bool} {c0 f0 : Int} {d0 : Bool} {r1 r2 r3 m : Int} (h : ∀ w : World, Calls Try.prog 28 #[.int .u32 (x : Nat)] w fun e w' => e = .returned (.tuple #[.agg #[.int .i64 c0, .int .i64 f0, .bool d0, .int .i64 r1, .int .i64 r2, .int .i64 r3, .int .u64 m], .bool true]) ∧ Grew w w') (hk : kOf x = ⟨c, f, d⟩) (hc : c ≠ 0) (hI : (⟨c0, f0, d0, r1, r2, r3, m⟩ : Ins) = decK x c f d) : Row x := by
  refine ⟨⟨c0, f0, d0, r1, r2, r3, m⟩, true, h, ?_, fun _ => ?_⟩
  · rw [hk, noB_kd _ _ _ hc]; rfl
  · unfold decI; rw [hk]; exact hI
theorem Row.no {x : Nat} {c0 f0 : Int} {d0 : Bool} {r1 r2 r3 m : Int} (h : ∀ w : World, Calls Try.prog 28 #[.int .u32 (x : Nat)] w fun e w' => e = .returned (.tuple #[.agg #[.int .i64 c0, .int .i64 f0, .bool d0, .int .i64 r1, .int .i64 r2, .int .i64 r3, .int .u64 m], .bool false]) ∧ Grew w w') (hk : kOf x = kNo) : Row x := by
  refine ⟨⟨c0, f0, d0, r1, r2, r3, m⟩, false, h, ?_, fun h => by cases h⟩
  rw [hk]; rfl
theorem Row.on {x : Nat} {c f : Int} {d : Bool} (b : Bool) {c0 f0 : Int} {d0 : Bool} {r1 r2 r3 m : Int} (h : ∀ w : World, Calls Try.prog 28 #[.int .u32 (x : Nat)] w fun e w' => e = .returned (.tuple #[.agg #[.int .i64 c0, .int .i64 f0, .bool d0, .int .i64 r1, .int .i64 r2, .int .i64 r3, .int .u64 m], .bool b]) ∧ Grew w w') (hk : kOf x = kOn b c f d) (hc : c ≠ 0) (hI : b = true → (⟨c0, f0, d0, r1, r2, r3, m⟩ : Ins) = decK x c f d) : Row x := by
  cases b
  · exact Row.no h hk
  · exact Row.at' h hk hc (hI rfl)
theorem i12 (x : Nat) (c : Int) (hc : c = 4 ∨ c = 6) (f : Int) : immN (shp c f) x = sextV (fN x 31 20 : Nat) 12 := by
  have e : shp c f = tw 12 := by rcases hc with rfl | rfl <;> simp [shp]
  rw [e]
  show sextV (orK x [⟨31, 20, 0⟩] 1 : Nat) 12 = _
  rw [or_i]
theorem row_55 (x : Nat) (hx : x < 4294967296) (ho : fN x 6 0 = 55) : Row x := by
  have hk : kOf x = ⟨1, 0, false⟩ := by
    show kF x (fN x 14 12 : Nat) (fN x 31 25 : Nat) = _
    unfold kF; rw [if_pos ho]
  refine Row.at' (fun w => rd_55 x hx ho w) hk (by decide) ?_
  show _ = Ins.mk _ _ _ _ _ _ (sextV (orK x [⟨31, 12, 12⟩] 1 : Nat) 32)
  rw [or_lui]
  rfl
theorem row_23 (x : Nat) (hx : x < 4294967296) (ho : fN x 6 0 = 23) : Row x := by
  have hk : kOf x = ⟨2, 0, false⟩ := by
    show kF x (fN x 14 12 : Nat) (fN x 31 25 : Nat) = _
    unfold kF; rw [if_neg (show ¬ fN x 6 0 = 55 by omega), if_pos ho]
  refine Row.at' (fun w => rd_23 x hx ho w) hk (by decide) ?_
  show _ = Ins.mk _ _ _ _ _ _ (sextV (orK x [⟨31, 12, 12⟩] 1 : Nat) 32)
  rw [or_lui]
  rfl
theorem row_111 (x : Nat) (hx : x < 4294967296) (ho : fN x 6 0 = 111) : Row x := by
  have hk : kOf x = ⟨3, 0, false⟩ := by
    show kF x (fN x 14 12 : Nat) (fN x 31 25 : Nat) = _
    unfold kF; rw [if_neg (show ¬ fN x 6 0 = 55 by omega), if_neg (show ¬ fN x 6 0 = 23 by omega), if_pos ho]
  refine Row.at' (fun w => rd_111 x hx ho w) hk (by decide) ?_
  show _ = Ins.mk _ _ _ _ _ _ (sextV ((((0 ||| fN x 31 31 * 1048576) ||| fN x 30 21 * 2) ||| fN x 20 20 * 2048) ||| fN x 19 12 * 4096 : Nat) 21)
  rw [Nat.zero_or]
  rfl
theorem row_103 (x : Nat) (hx : x < 4294967296) (ho : fN x 6 0 = 103) : Row x := by
  have hk : kOf x = kOn (((fN x 14 12 : Nat) : Int) == 0) 4 0 false := by
    show kF x (fN x 14 12 : Nat) (fN x 31 25 : Nat) = _
    unfold kF; rw [if_neg (show ¬ fN x 6 0 = 55 by omega), if_neg (show ¬ fN x 6 0 = 23 by omega), if_neg (show ¬ fN x 6 0 = 111 by omega), if_pos ho]
  refine Row.on _ (fun w => rd_103 x hx ho w) hk (by decide) fun _ => ?_
  unfold decK
  rw [i12 x 4 (.inl rfl)]
  rfl
theorem row_3 (x : Nat) (hx : x < 4294967296) (ho : fN x 6 0 = 3) : Row x := by
  have hk : kOf x = kOn (((fN x 14 12 : Nat) : Int) != 7) 6 (fN x 14 12 : Nat) false := by
    show kF x (fN x 14 12 : Nat) (fN x 31 25 : Nat) = _
    unfold kF; rw [if_neg (show ¬ fN x 6 0 = 55 by omega), if_neg (show ¬ fN x 6 0 = 23 by omega), if_neg (show ¬ fN x 6 0 = 111 by omega), if_neg (show ¬ fN x 6 0 = 103 by omega), if_neg (show ¬ fN x 6 0 = 99 by omega), if_pos ho]
  refine Row.on _ (fun w => rd_3 x hx ho w) hk (by decide) fun _ => ?_
  unfold decK
  rw [i12 x 6 (.inr rfl), show shp 6 (fN x 14 12 : Nat) = tw 12 by simp [shp]]
  rfl
theorem row_15 (x : Nat) (hx : x < 4294967296) (ho : fN x 6 0 = 15) : Row x := by
  have hk : kOf x = kOn (decide (((fN x 14 12 : Nat) : Int) ≤ 1)) 10 (fN x 14 12 : Nat) false := by
    show kF x (fN x 14 12 : Nat) (fN x 31 25 : Nat) = _
    unfold kF; rw [if_neg (show ¬ fN x 6 0 = 55 by omega), if_neg (show ¬ fN x 6 0 = 23 by omega), if_neg (show ¬ fN x 6 0 = 111 by omega), if_neg (show ¬ fN x 6 0 = 103 by omega), if_neg (show ¬ fN x 6 0 = 99 by omega), if_neg (show ¬ fN x 6 0 = 3 by omega), if_neg (show ¬ fN x 6 0 = 35 by omega), if_neg (show ¬ fN x 6 0 = 19 by omega), if_neg (show ¬ fN x 6 0 = 27 by omega), if_neg (show ¬ fN x 6 0 = 51 by omega), if_neg (show ¬ fN x 6 0 = 59 by omega), if_pos ho]
  refine Row.on _ (fun w => rd_15 x hx ho w) hk (by decide) fun _ => ?_
  unfold decK
  rw [show shp 10 (fN x 14 12 : Nat) = ⟨false, false, false, [], 0⟩ by simp [shp]]
  rfl
theorem row_35 (x : Nat) (hx : x < 4294967296) (ho : fN x 6 0 = 35) : Row x := by
  have hk : kOf x = kOn (decide (((fN x 14 12 : Nat) : Int) ≤ 3)) 7 (fN x 14 12 : Nat) false := by
    show kF x (fN x 14 12 : Nat) (fN x 31 25 : Nat) = _
    unfold kF; rw [if_neg (show ¬ fN x 6 0 = 55 by omega), if_neg (show ¬ fN x 6 0 = 23 by omega), if_neg (show ¬ fN x 6 0 = 111 by omega), if_neg (show ¬ fN x 6 0 = 103 by omega), if_neg (show ¬ fN x 6 0 = 99 by omega), if_neg (show ¬ fN x 6 0 = 3 by omega), if_pos ho]
  refine Row.on _ (fun w => rd_35 x hx ho w) hk (by decide) fun _ => ?_
  unfold decK
  rw [show shp 7 (fN x 14 12 : Nat) = ⟨false, true, true, [⟨31, 25, 5⟩, ⟨11, 7, 0⟩], 12⟩ by simp [shp]]
  show _ = Ins.mk _ _ _ _ _ _ (sextV ((0 ||| fN x 31 25 * 32) ||| fN x 11 7 * 1 : Nat) 12)
  rw [Nat.zero_or, Nat.mul_one]
  rfl
theorem row_99_0 (x : Nat) (hx : x < 4294967296) (ho : fN x 6 0 = 99) (hf : fN x 14 12 = 0) : Row x := by
  have hk : kOf x = kOn true 5 0 false := by
    show kF x (fN x 14 12 : Nat) (fN x 31 25 : Nat) = _
    unfold kF; rw [if_neg (show ¬ fN x 6 0 = 55 by omega), if_neg (show ¬ fN x 6 0 = 23 by omega), if_neg (show ¬ fN x 6 0 = 111 by omega), if_neg (show ¬ fN x 6 0 = 103 by omega), if_pos ho]
    rw [hf]; rfl
  refine Row.on _ (fun w => rd_99_0 x hx ho hf w) hk (by decide) fun _ => ?_
  unfold decK
  rw [show shp 5 0 = ⟨false, true, true, [⟨31, 31, 12⟩, ⟨30, 25, 5⟩, ⟨11, 8, 1⟩, ⟨7, 7, 11⟩], 13⟩ by simp [shp]]
  show _ = Ins.mk _ _ _ _ _ _ (sextV ((((0 ||| fN x 31 31 * 4096) ||| fN x 30 25 * 32) ||| fN x 11 8 * 2) ||| fN x 7 7 * 2048 : Nat) 13)
  rw [Nat.zero_or]
  rfl
theorem row_99_1 (x : Nat) (hx : x < 4294967296) (ho : fN x 6 0 = 99) (hf : fN x 14 12 = 1) : Row x := by
  have hk : kOf x = kOn true 5 1 false := by
    show kF x (fN x 14 12 : Nat) (fN x 31 25 : Nat) = _
    unfold kF; rw [if_neg (show ¬ fN x 6 0 = 55 by omega), if_neg (show ¬ fN x 6 0 = 23 by omega), if_neg (show ¬ fN x 6 0 = 111 by omega), if_neg (show ¬ fN x 6 0 = 103 by omega), if_pos ho]
    rw [hf]; rfl
  refine Row.on _ (fun w => rd_99_1 x hx ho hf w) hk (by decide) fun _ => ?_
  unfold decK
  rw [show shp 5 1 = ⟨false, true, true, [⟨31, 31, 12⟩, ⟨30, 25, 5⟩, ⟨11, 8, 1⟩, ⟨7, 7, 11⟩], 13⟩ by simp [shp]]
  show _ = Ins.mk _ _ _ _ _ _ (sextV ((((0 ||| fN x 31 31 * 4096) ||| fN x 30 25 * 32) ||| fN x 11 8 * 2) ||| fN x 7 7 * 2048 : Nat) 13)
  rw [Nat.zero_or]
  rfl
theorem row_99_2 (x : Nat) (hx : x < 4294967296) (ho : fN x 6 0 = 99) (hf : fN x 14 12 = 2) : Row x := by
  have hk : kOf x = kOn false 5 2 false := by
    show kF x (fN x 14 12 : Nat) (fN x 31 25 : Nat) = _
    unfold kF; rw [if_neg (show ¬ fN x 6 0 = 55 by omega), if_neg (show ¬ fN x 6 0 = 23 by omega), if_neg (show ¬ fN x 6 0 = 111 by omega), if_neg (show ¬ fN x 6 0 = 103 by omega), if_pos ho]
    rw [hf]; rfl
  refine Row.on _ (fun w => rd_99_2 x hx ho hf w) hk (by decide) fun _ => ?_
  unfold decK
  rw [show shp 5 2 = ⟨false, true, true, [⟨31, 31, 12⟩, ⟨30, 25, 5⟩, ⟨11, 8, 1⟩, ⟨7, 7, 11⟩], 13⟩ by simp [shp]]
  show _ = Ins.mk _ _ _ _ _ _ (sextV ((((0 ||| fN x 31 31 * 4096) ||| fN x 30 25 * 32) ||| fN x 11 8 * 2) ||| fN x 7 7 * 2048 : Nat) 13)
  rw [Nat.zero_or]
  rfl
theorem row_99_3 (x : Nat) (hx : x < 4294967296) (ho : fN x 6 0 = 99) (hf : fN x 14 12 = 3) : Row x := by
  have hk : kOf x = kOn false 5 3 false := by
    show kF x (fN x 14 12 : Nat) (fN x 31 25 : Nat) = _
    unfold kF; rw [if_neg (show ¬ fN x 6 0 = 55 by omega), if_neg (show ¬ fN x 6 0 = 23 by omega), if_neg (show ¬ fN x 6 0 = 111 by omega), if_neg (show ¬ fN x 6 0 = 103 by omega), if_pos ho]
    rw [hf]; rfl
  refine Row.on _ (fun w => rd_99_3 x hx ho hf w) hk (by decide) fun _ => ?_
  unfold decK
  rw [show shp 5 3 = ⟨false, true, true, [⟨31, 31, 12⟩, ⟨30, 25, 5⟩, ⟨11, 8, 1⟩, ⟨7, 7, 11⟩], 13⟩ by simp [shp]]
  show _ = Ins.mk _ _ _ _ _ _ (sextV ((((0 ||| fN x 31 31 * 4096) ||| fN x 30 25 * 32) ||| fN x 11 8 * 2) ||| fN x 7 7 * 2048 : Nat) 13)
  rw [Nat.zero_or]
  rfl
theorem row_99_4 (x : Nat) (hx : x < 4294967296) (ho : fN x 6 0 = 99) (hf : fN x 14 12 = 4) : Row x := by
  have hk : kOf x = kOn true 5 4 false := by
    show kF x (fN x 14 12 : Nat) (fN x 31 25 : Nat) = _
    unfold kF; rw [if_neg (show ¬ fN x 6 0 = 55 by omega), if_neg (show ¬ fN x 6 0 = 23 by omega), if_neg (show ¬ fN x 6 0 = 111 by omega), if_neg (show ¬ fN x 6 0 = 103 by omega), if_pos ho]
    rw [hf]; rfl
  refine Row.on _ (fun w => rd_99_4 x hx ho hf w) hk (by decide) fun _ => ?_
  unfold decK
  rw [show shp 5 4 = ⟨false, true, true, [⟨31, 31, 12⟩, ⟨30, 25, 5⟩, ⟨11, 8, 1⟩, ⟨7, 7, 11⟩], 13⟩ by simp [shp]]
  show _ = Ins.mk _ _ _ _ _ _ (sextV ((((0 ||| fN x 31 31 * 4096) ||| fN x 30 25 * 32) ||| fN x 11 8 * 2) ||| fN x 7 7 * 2048 : Nat) 13)
  rw [Nat.zero_or]
  rfl
theorem row_99_5 (x : Nat) (hx : x < 4294967296) (ho : fN x 6 0 = 99) (hf : fN x 14 12 = 5) : Row x := by
  have hk : kOf x = kOn true 5 5 false := by
    show kF x (fN x 14 12 : Nat) (fN x 31 25 : Nat) = _
    unfold kF; rw [if_neg (show ¬ fN x 6 0 = 55 by omega), if_neg (show ¬ fN x 6 0 = 23 by omega), if_neg (show ¬ fN x 6 0 = 111 by omega), if_neg (show ¬ fN x 6 0 = 103 by omega), if_pos ho]
    rw [hf]; rfl
  refine Row.on _ (fun w => rd_99_5 x hx ho hf w) hk (by decide) fun _ => ?_
  unfold decK
  rw [show shp 5 5 = ⟨false, true, true, [⟨31, 31, 12⟩, ⟨30, 25, 5⟩, ⟨11, 8, 1⟩, ⟨7, 7, 11⟩], 13⟩ by simp [shp]]
  show _ = Ins.mk _ _ _ _ _ _ (sextV ((((0 ||| fN x 31 31 * 4096) ||| fN x 30 25 * 32) ||| fN x 11 8 * 2) ||| fN x 7 7 * 2048 : Nat) 13)
  rw [Nat.zero_or]
  rfl
theorem row_99_6 (x : Nat) (hx : x < 4294967296) (ho : fN x 6 0 = 99) (hf : fN x 14 12 = 6) : Row x := by
  have hk : kOf x = kOn true 5 6 false := by
    show kF x (fN x 14 12 : Nat) (fN x 31 25 : Nat) = _
    unfold kF; rw [if_neg (show ¬ fN x 6 0 = 55 by omega), if_neg (show ¬ fN x 6 0 = 23 by omega), if_neg (show ¬ fN x 6 0 = 111 by omega), if_neg (show ¬ fN x 6 0 = 103 by omega), if_pos ho]
    rw [hf]; rfl
  refine Row.on _ (fun w => rd_99_6 x hx ho hf w) hk (by decide) fun _ => ?_
  unfold decK
  rw [show shp 5 6 = ⟨false, true, true, [⟨31, 31, 12⟩, ⟨30, 25, 5⟩, ⟨11, 8, 1⟩, ⟨7, 7, 11⟩], 13⟩ by simp [shp]]
  show _ = Ins.mk _ _ _ _ _ _ (sextV ((((0 ||| fN x 31 31 * 4096) ||| fN x 30 25 * 32) ||| fN x 11 8 * 2) ||| fN x 7 7 * 2048 : Nat) 13)
  rw [Nat.zero_or]
  rfl
theorem row_99_7 (x : Nat) (hx : x < 4294967296) (ho : fN x 6 0 = 99) (hf : fN x 14 12 = 7) : Row x := by
  have hk : kOf x = kOn true 5 7 false := by
    show kF x (fN x 14 12 : Nat) (fN x 31 25 : Nat) = _
    unfold kF; rw [if_neg (show ¬ fN x 6 0 = 55 by omega), if_neg (show ¬ fN x 6 0 = 23 by omega), if_neg (show ¬ fN x 6 0 = 111 by omega), if_neg (show ¬ fN x 6 0 = 103 by omega), if_pos ho]
    rw [hf]; rfl
  refine Row.on _ (fun w => rd_99_7 x hx ho hf w) hk (by decide) fun _ => ?_
  unfold decK
  rw [show shp 5 7 = ⟨false, true, true, [⟨31, 31, 12⟩, ⟨30, 25, 5⟩, ⟨11, 8, 1⟩, ⟨7, 7, 11⟩], 13⟩ by simp [shp]]
  show _ = Ins.mk _ _ _ _ _ _ (sextV ((((0 ||| fN x 31 31 * 4096) ||| fN x 30 25 * 32) ||| fN x 11 8 * 2) ||| fN x 7 7 * 2048 : Nat) 13)
  rw [Nat.zero_or]
  rfl
theorem shp_8o (f : Int) (h1 : f ≠ 1) (h5 : f ≠ 5) (h13 : f ≠ 13) : shp 8 f = tw 12 := by
  unfold shp immShp
  simp [h1, h5, h13]
theorem shp_8s (f : Int) (h : f = 1 ∨ f = 5 ∨ f = 13) : shp 8 f = ⟨true, true, false, [⟨25, 20, 0⟩], 64⟩ := by
  unfold shp immShp
  simp [h]
theorem sh_imm (x : Nat) : sextV (orK x [⟨25, 20, 0⟩] 1 : Nat) 64 = (fN x 25 20 : Nat) := by rw [or_sh, sextV64]
theorem row_19_o (x : Nat) (hx : x < 4294967296) (ho : fN x 6 0 = 19) (h1 : ¬ fN x 14 12 = 1) (h5 : ¬ fN x 14 12 = 5) : Row x := by
  have f8 := f3_lt x
  have hk : kOf x = kOn (!false || ((fN x 14 12 : Nat) : Int) == 0) 8 (fN x 14 12 : Nat) false := by
    show kF x (fN x 14 12 : Nat) (fN x 31 25 : Nat) = _
    unfold kF; rw [if_neg (show ¬ fN x 6 0 = 55 by omega), if_neg (show ¬ fN x 6 0 = 23 by omega), if_neg (show ¬ fN x 6 0 = 111 by omega), if_neg (show ¬ fN x 6 0 = 103 by omega), if_neg (show ¬ fN x 6 0 = 99 by omega), if_neg (show ¬ fN x 6 0 = 3 by omega), if_neg (show ¬ fN x 6 0 = 35 by omega), if_pos ho]
    unfold kImm
    rw [if_neg (by omega), if_neg (by omega)]
    by_cases h0 : ((fN x 14 12 : Nat) : Int) = 0
    · rw [if_pos h0, show (((fN x 14 12 : Nat) : Int) == 0) = true by rw [beq_iff_eq]; exact h0, Bool.or_true]; rfl
    · rw [if_neg h0, show (((fN x 14 12 : Nat) : Int) == 0) = false by rw [beq_eq_false_iff_ne]; exact h0, Bool.or_false]
  have hc := fun w => rd_19_o x hx ho h1 h5 w
  refine Row.on _ hc hk (by decide) fun _ => ?_
  unfold decK
  rw [shp_8o _ (by omega) (by omega) (by omega)]
  show _ = Ins.mk _ _ _ _ _ _ (sextV (orK x [⟨31, 20, 0⟩] 1 : Nat) 12)
  rw [or_i]
  rfl
theorem row_19_1 (x : Nat) (hx : x < 4294967296) (ho : fN x 6 0 = 19) (hf : fN x 14 12 = 1) : Row x := by
  have e26 : fN x 31 26 = x / 67108864 := by simp [fN]; omega
  have e25 := f_31_25 x hx
  have e20 := f_25_20 x
  have e24 := f_24_20 x
  have hb : ((((fN x 31 25 : Nat) : Int) - ((fN x 31 25 : Nat) : Int) % 2) == 0) = (((fN x 31 26 : Nat) : Int) == 0) := by
    rw [Bool.eq_iff_iff, beq_iff_eq, beq_iff_eq]
    omega
  have hk : kOf x = kOn (((fN x 31 26 : Nat) : Int) == 0) 8 1 false := by
    show kF x (fN x 14 12 : Nat) (fN x 31 25 : Nat) = _
    unfold kF; rw [if_neg (show ¬ fN x 6 0 = 55 by omega), if_neg (show ¬ fN x 6 0 = 23 by omega), if_neg (show ¬ fN x 6 0 = 111 by omega), if_neg (show ¬ fN x 6 0 = 103 by omega), if_neg (show ¬ fN x 6 0 = 99 by omega), if_neg (show ¬ fN x 6 0 = 3 by omega), if_neg (show ¬ fN x 6 0 = 35 by omega), if_pos ho]
    rw [← hb, hf]; rfl
  refine Row.on _ (fun w => rd_19_1 x hx ho hf w) hk (by decide) fun hok => ?_
  have e2 : fN x 25 20 = fN x 25 20 := by rfl
  unfold decK
  rw [shp_8s _ (by decide)]
  show _ = Ins.mk _ _ _ _ _ _ (sextV (orK x [⟨25, 20, 0⟩] 1 : Nat) 64)
  rw [sh_imm, e2]
  rfl
theorem row_19_5y (x : Nat) (hx : x < 4294967296) (ho : fN x 6 0 = 19) (hf : fN x 14 12 = 5) (hs : fN x 31 26 = 16) : Row x := by
  have e26 : fN x 31 26 = x / 67108864 := by simp [fN]; omega
  have e25 := f_31_25 x hx
  have e20 := f_25_20 x
  have e24 := f_24_20 x
  have hb : ((((fN x 31 25 : Nat) : Int) - ((fN x 31 25 : Nat) : Int) % 2) == 0) = (((fN x 31 26 : Nat) : Int) == 0) := by
    rw [Bool.eq_iff_iff, beq_iff_eq, beq_iff_eq]
    omega
  have hk : kOf x = kOn true 8 13 false := by
    show kF x (fN x 14 12 : Nat) (fN x 31 25 : Nat) = _
    unfold kF; rw [if_neg (show ¬ fN x 6 0 = 55 by omega), if_neg (show ¬ fN x 6 0 = 23 by omega), if_neg (show ¬ fN x 6 0 = 111 by omega), if_neg (show ¬ fN x 6 0 = 103 by omega), if_neg (show ¬ fN x 6 0 = 99 by omega), if_neg (show ¬ fN x 6 0 = 3 by omega), if_neg (show ¬ fN x 6 0 = 35 by omega), if_pos ho]
    unfold kImm
    rw [if_neg (by omega), if_pos (by omega), if_pos (by omega)]; rfl
  refine Row.on _ (fun w => rd_19_5y x hx ho hf hs w) hk (by decide) fun hok => ?_
  have e2 : fN x 25 20 = fN x 25 20 := by rfl
  unfold decK
  rw [shp_8s _ (by decide)]
  show _ = Ins.mk _ _ _ _ _ _ (sextV (orK x [⟨25, 20, 0⟩] 1 : Nat) 64)
  rw [sh_imm, e2]
  rfl
theorem row_19_5n (x : Nat) (hx : x < 4294967296) (ho : fN x 6 0 = 19) (hf : fN x 14 12 = 5) (hs : ¬ fN x 31 26 = 16) : Row x := by
  have e26 : fN x 31 26 = x / 67108864 := by simp [fN]; omega
  have e25 := f_31_25 x hx
  have e20 := f_25_20 x
  have e24 := f_24_20 x
  have hb : ((((fN x 31 25 : Nat) : Int) - ((fN x 31 25 : Nat) : Int) % 2) == 0) = (((fN x 31 26 : Nat) : Int) == 0) := by
    rw [Bool.eq_iff_iff, beq_iff_eq, beq_iff_eq]
    omega
  have hk : kOf x = kOn (((fN x 31 26 : Nat) : Int) == 0) 8 5 false := by
    show kF x (fN x 14 12 : Nat) (fN x 31 25 : Nat) = _
    unfold kF; rw [if_neg (show ¬ fN x 6 0 = 55 by omega), if_neg (show ¬ fN x 6 0 = 23 by omega), if_neg (show ¬ fN x 6 0 = 111 by omega), if_neg (show ¬ fN x 6 0 = 103 by omega), if_neg (show ¬ fN x 6 0 = 99 by omega), if_neg (show ¬ fN x 6 0 = 3 by omega), if_neg (show ¬ fN x 6 0 = 35 by omega), if_pos ho]
    unfold kImm
    rw [if_neg (by omega), if_pos (by omega), if_neg (by omega), hb, hf]; rfl
  refine Row.on _ (fun w => rd_19_5n x hx ho hf hs w) hk (by decide) fun hok => ?_
  have e2 : fN x 25 20 = fN x 25 20 := by rfl
  unfold decK
  rw [shp_8s _ (by decide)]
  show _ = Ins.mk _ _ _ _ _ _ (sextV (orK x [⟨25, 20, 0⟩] 1 : Nat) 64)
  rw [sh_imm, e2]
  rfl
theorem row_19 (x : Nat) (hx : x < 4294967296) (ho : fN x 6 0 = 19) : Row x := by
  by_cases h1 : fN x 14 12 = 1
  · exact row_19_1 x hx ho h1
  · by_cases h5 : fN x 14 12 = 5
    · by_cases hs : fN x 31 26 = 16
      · exact row_19_5y x hx ho h5 hs
      · exact row_19_5n x hx ho h5 hs
    · exact row_19_o x hx ho h1 h5
theorem row_27_o (x : Nat) (hx : x < 4294967296) (ho : fN x 6 0 = 27) (h1 : ¬ fN x 14 12 = 1) (h5 : ¬ fN x 14 12 = 5) : Row x := by
  have f8 := f3_lt x
  have hk : kOf x = kOn (!true || ((fN x 14 12 : Nat) : Int) == 0) 8 (fN x 14 12 : Nat) true := by
    show kF x (fN x 14 12 : Nat) (fN x 31 25 : Nat) = _
    unfold kF; rw [if_neg (show ¬ fN x 6 0 = 55 by omega), if_neg (show ¬ fN x 6 0 = 23 by omega), if_neg (show ¬ fN x 6 0 = 111 by omega), if_neg (show ¬ fN x 6 0 = 103 by omega), if_neg (show ¬ fN x 6 0 = 99 by omega), if_neg (show ¬ fN x 6 0 = 3 by omega), if_neg (show ¬ fN x 6 0 = 35 by omega), if_neg (show ¬ fN x 6 0 = 19 by omega), if_pos ho]
    unfold kImm
    rw [if_neg (by omega), if_neg (by omega)]
    by_cases h0 : ((fN x 14 12 : Nat) : Int) = 0
    · rw [if_pos h0, show (((fN x 14 12 : Nat) : Int) == 0) = true by rw [beq_iff_eq]; exact h0, Bool.or_true]; rfl
    · rw [if_neg h0, show (((fN x 14 12 : Nat) : Int) == 0) = false by rw [beq_eq_false_iff_ne]; exact h0, Bool.or_false]
  have hc := fun w => rd_27_o x hx ho h1 h5 w
  refine Row.on _ hc hk (by decide) fun _ => ?_
  unfold decK
  rw [shp_8o _ (by omega) (by omega) (by omega)]
  show _ = Ins.mk _ _ _ _ _ _ (sextV (orK x [⟨31, 20, 0⟩] 1 : Nat) 12)
  rw [or_i]
  rfl
theorem row_27_1 (x : Nat) (hx : x < 4294967296) (ho : fN x 6 0 = 27) (hf : fN x 14 12 = 1) : Row x := by
  have e26 : fN x 31 26 = x / 67108864 := by simp [fN]; omega
  have e25 := f_31_25 x hx
  have e20 := f_25_20 x
  have e24 := f_24_20 x
  have hk : kOf x = kOn (((fN x 31 25 : Nat) : Int) == 0) 8 1 true := by
    show kF x (fN x 14 12 : Nat) (fN x 31 25 : Nat) = _
    unfold kF; rw [if_neg (show ¬ fN x 6 0 = 55 by omega), if_neg (show ¬ fN x 6 0 = 23 by omega), if_neg (show ¬ fN x 6 0 = 111 by omega), if_neg (show ¬ fN x 6 0 = 103 by omega), if_neg (show ¬ fN x 6 0 = 99 by omega), if_neg (show ¬ fN x 6 0 = 3 by omega), if_neg (show ¬ fN x 6 0 = 35 by omega), if_neg (show ¬ fN x 6 0 = 19 by omega), if_pos ho]
    rw [hf]; rfl
  refine Row.on _ (fun w => rd_27_1 x hx ho hf w) hk (by decide) fun hok => ?_
  have e2 : fN x 24 20 = fN x 25 20 := by
    have hz : ((fN x 31 25 : Nat) : Int) = 0 := by simpa using hok
    omega
  unfold decK
  rw [shp_8s _ (by decide)]
  show _ = Ins.mk _ _ _ _ _ _ (sextV (orK x [⟨25, 20, 0⟩] 1 : Nat) 64)
  rw [sh_imm, e2]
  rfl
theorem row_27_5y (x : Nat) (hx : x < 4294967296) (ho : fN x 6 0 = 27) (hf : fN x 14 12 = 5) (hs : fN x 31 25 = 32) : Row x := by
  have e26 : fN x 31 26 = x / 67108864 := by simp [fN]; omega
  have e25 := f_31_25 x hx
  have e20 := f_25_20 x
  have e24 := f_24_20 x
  have hk : kOf x = kOn true 8 13 true := by
    show kF x (fN x 14 12 : Nat) (fN x 31 25 : Nat) = _
    unfold kF; rw [if_neg (show ¬ fN x 6 0 = 55 by omega), if_neg (show ¬ fN x 6 0 = 23 by omega), if_neg (show ¬ fN x 6 0 = 111 by omega), if_neg (show ¬ fN x 6 0 = 103 by omega), if_neg (show ¬ fN x 6 0 = 99 by omega), if_neg (show ¬ fN x 6 0 = 3 by omega), if_neg (show ¬ fN x 6 0 = 35 by omega), if_neg (show ¬ fN x 6 0 = 19 by omega), if_pos ho]
    unfold kImm
    rw [if_neg (by omega), if_pos (by omega), if_pos (by omega)]; rfl
  refine Row.on _ (fun w => rd_27_5y x hx ho hf hs w) hk (by decide) fun hok => ?_
  have e2 : fN x 24 20 = fN x 25 20 := by
    skip
    omega
  unfold decK
  rw [shp_8s _ (by decide)]
  show _ = Ins.mk _ _ _ _ _ _ (sextV (orK x [⟨25, 20, 0⟩] 1 : Nat) 64)
  rw [sh_imm, e2]
  rfl
theorem row_27_5n (x : Nat) (hx : x < 4294967296) (ho : fN x 6 0 = 27) (hf : fN x 14 12 = 5) (hs : ¬ fN x 31 25 = 32) : Row x := by
  have e26 : fN x 31 26 = x / 67108864 := by simp [fN]; omega
  have e25 := f_31_25 x hx
  have e20 := f_25_20 x
  have e24 := f_24_20 x
  have hk : kOf x = kOn (((fN x 31 25 : Nat) : Int) == 0) 8 5 true := by
    show kF x (fN x 14 12 : Nat) (fN x 31 25 : Nat) = _
    unfold kF; rw [if_neg (show ¬ fN x 6 0 = 55 by omega), if_neg (show ¬ fN x 6 0 = 23 by omega), if_neg (show ¬ fN x 6 0 = 111 by omega), if_neg (show ¬ fN x 6 0 = 103 by omega), if_neg (show ¬ fN x 6 0 = 99 by omega), if_neg (show ¬ fN x 6 0 = 3 by omega), if_neg (show ¬ fN x 6 0 = 35 by omega), if_neg (show ¬ fN x 6 0 = 19 by omega), if_pos ho]
    unfold kImm
    rw [if_neg (by omega), if_pos (by omega), if_neg (by omega), hf]; rfl
  refine Row.on _ (fun w => rd_27_5n x hx ho hf hs w) hk (by decide) fun hok => ?_
  have e2 : fN x 24 20 = fN x 25 20 := by
    have hz : ((fN x 31 25 : Nat) : Int) = 0 := by simpa using hok
    omega
  unfold decK
  rw [shp_8s _ (by decide)]
  show _ = Ins.mk _ _ _ _ _ _ (sextV (orK x [⟨25, 20, 0⟩] 1 : Nat) 64)
  rw [sh_imm, e2]
  rfl
theorem row_27 (x : Nat) (hx : x < 4294967296) (ho : fN x 6 0 = 27) : Row x := by
  by_cases h1 : fN x 14 12 = 1
  · exact row_27_1 x hx ho h1
  · by_cases h5 : fN x 14 12 = 5
    · by_cases hs : fN x 31 25 = 32
      · exact row_27_5y x hx ho h5 hs
      · exact row_27_5n x hx ho h5 hs
    · exact row_27_o x hx ho h1 h5
theorem shp_9 (f : Int) : shp 9 f = ⟨true, true, true, [], 0⟩ := by simp [shp]
theorem dec_9 (x : Nat) (f : Int) (d : Bool) : decK x 9 f d = ⟨9, f, d, (fN x 11 7 : Nat), (fN x 19 15 : Nat), (fN x 24 20 : Nat), 0⟩ := by
  unfold decK
  rw [shp_9]
  rfl
theorem mem015 (n : Nat) : memB [0, 1, 5] n 0 = ((n : Int) == 0 || regShift n) := by
  unfold memB regShift
  rw [Bool.eq_iff_iff]
  simp
  omega
theorem row_51_0 (x : Nat) (hx : x < 4294967296) (ho : fN x 6 0 = 51) (hy : fN x 31 25 = 0) : Row x := by
  have hk : kOf x = kOn true 9 (fN x 14 12 : Nat) false := by
    show kF x (fN x 14 12 : Nat) (fN x 31 25 : Nat) = _
    unfold kF; rw [if_neg (show ¬ fN x 6 0 = 55 by omega), if_neg (show ¬ fN x 6 0 = 23 by omega), if_neg (show ¬ fN x 6 0 = 111 by omega), if_neg (show ¬ fN x 6 0 = 103 by omega), if_neg (show ¬ fN x 6 0 = 99 by omega), if_neg (show ¬ fN x 6 0 = 3 by omega), if_neg (show ¬ fN x 6 0 = 35 by omega), if_neg (show ¬ fN x 6 0 = 19 by omega), if_neg (show ¬ fN x 6 0 = 27 by omega), if_pos ho]
    unfold kReg
    rw [if_pos (by omega)]; rfl
  refine Row.on _ (fun w => rd_51_0 x hx ho hy w) hk (by decide) fun _ => ?_
  exact (dec_9 x _ _).symm
theorem row_51_32_0 (x : Nat) (hx : x < 4294967296) (ho : fN x 6 0 = 51) (hy : fN x 31 25 = 32) (hf : fN x 14 12 = 0) : Row x := by
  have hk : kOf x = kOn true 9 8 false := by
    show kF x (fN x 14 12 : Nat) (fN x 31 25 : Nat) = _
    unfold kF; rw [if_neg (show ¬ fN x 6 0 = 55 by omega), if_neg (show ¬ fN x 6 0 = 23 by omega), if_neg (show ¬ fN x 6 0 = 111 by omega), if_neg (show ¬ fN x 6 0 = 103 by omega), if_neg (show ¬ fN x 6 0 = 99 by omega), if_neg (show ¬ fN x 6 0 = 3 by omega), if_neg (show ¬ fN x 6 0 = 35 by omega), if_neg (show ¬ fN x 6 0 = 19 by omega), if_neg (show ¬ fN x 6 0 = 27 by omega), if_pos ho]
    unfold kReg
    rw [if_neg (by omega), if_pos (by omega), hf]; rfl
  refine Row.on _ (fun w => rd_51_32_0 x hx ho hy hf w) hk (by decide) fun _ => ?_
  exact (dec_9 x _ _).symm
theorem row_51_32 (x : Nat) (hx : x < 4294967296) (ho : fN x 6 0 = 51) (hy : fN x 31 25 = 32) (hf : ¬ fN x 14 12 = 0) : Row x := by
  have hk : kOf x = kOn (((fN x 14 12 : Nat) : Int) == 5) 9 ((fN x 14 12 : Nat) + 8) false := by
    show kF x (fN x 14 12 : Nat) (fN x 31 25 : Nat) = _
    unfold kF; rw [if_neg (show ¬ fN x 6 0 = 55 by omega), if_neg (show ¬ fN x 6 0 = 23 by omega), if_neg (show ¬ fN x 6 0 = 111 by omega), if_neg (show ¬ fN x 6 0 = 103 by omega), if_neg (show ¬ fN x 6 0 = 99 by omega), if_neg (show ¬ fN x 6 0 = 3 by omega), if_neg (show ¬ fN x 6 0 = 35 by omega), if_neg (show ¬ fN x 6 0 = 19 by omega), if_neg (show ¬ fN x 6 0 = 27 by omega), if_pos ho]
    unfold kReg
    rw [if_neg (by omega), if_pos (by omega), show (((fN x 14 12 : Nat) : Int) == 0) = false by rw [beq_eq_false_iff_ne]; omega, Bool.false_or]
  refine Row.on _ (fun w => rd_51_32 x hx ho hy hf w) hk (by decide) fun hok => ?_
  have h5 : ((fN x 14 12 : Nat) : Int) = 5 := by simpa using hok
  rw [h5]
  exact (dec_9 x _ _).symm
theorem row_51_1 (x : Nat) (hx : x < 4294967296) (ho : fN x 6 0 = 51) (hy : fN x 31 25 = 1) : Row x := by
  have hk : kOf x = kOn true 9 (16 + (fN x 14 12 : Nat)) false := by
    show kF x (fN x 14 12 : Nat) (fN x 31 25 : Nat) = _
    unfold kF; rw [if_neg (show ¬ fN x 6 0 = 55 by omega), if_neg (show ¬ fN x 6 0 = 23 by omega), if_neg (show ¬ fN x 6 0 = 111 by omega), if_neg (show ¬ fN x 6 0 = 103 by omega), if_neg (show ¬ fN x 6 0 = 99 by omega), if_neg (show ¬ fN x 6 0 = 3 by omega), if_neg (show ¬ fN x 6 0 = 35 by omega), if_neg (show ¬ fN x 6 0 = 19 by omega), if_neg (show ¬ fN x 6 0 = 27 by omega), if_pos ho]
    unfold kReg
    rw [if_neg (by omega), if_neg (by omega), if_pos (by omega), Int.add_comm 16]; rfl
  refine Row.on _ (fun w => rd_51_1 x hx ho hy w) hk (by decide) fun _ => ?_
  exact (dec_9 x _ _).symm
theorem row_51_a (x : Nat) (hx : x < 4294967296) (ho : fN x 6 0 = 51) (hy : fN x 31 25 = 1) : Row x := by
  exact row_51_1 x hx ho hy
theorem row_51_n (x : Nat) (hx : x < 4294967296) (ho : fN x 6 0 = 51) (h0 : ¬ fN x 31 25 = 0) (h1 : ¬ fN x 31 25 = 1) (h2 : ¬ fN x 31 25 = 32) : Row x := by
  have hk : kOf x = kNo := by
    show kF x (fN x 14 12 : Nat) (fN x 31 25 : Nat) = _
    unfold kF; rw [if_neg (show ¬ fN x 6 0 = 55 by omega), if_neg (show ¬ fN x 6 0 = 23 by omega), if_neg (show ¬ fN x 6 0 = 111 by omega), if_neg (show ¬ fN x 6 0 = 103 by omega), if_neg (show ¬ fN x 6 0 = 99 by omega), if_neg (show ¬ fN x 6 0 = 3 by omega), if_neg (show ¬ fN x 6 0 = 35 by omega), if_neg (show ¬ fN x 6 0 = 19 by omega), if_neg (show ¬ fN x 6 0 = 27 by omega), if_pos ho]
    unfold kReg
    rw [if_neg (by omega), if_neg (by omega), if_neg (by omega)]
  exact Row.no (fun w => rd_51_n x hx ho h0 h1 h2 w) hk
theorem row_51 (x : Nat) (hx : x < 4294967296) (ho : fN x 6 0 = 51) : Row x := by
  by_cases h0 : fN x 31 25 = 0
  · exact row_51_0 x hx ho h0
  · by_cases h2 : fN x 31 25 = 32
    · by_cases hf : fN x 14 12 = 0
      · exact row_51_32_0 x hx ho h2 hf
      · exact row_51_32 x hx ho h2 hf
    · by_cases h1 : fN x 31 25 = 1
      · exact row_51_a x hx ho h1
      · exact row_51_n x hx ho h0 h1 h2
theorem row_59_0 (x : Nat) (hx : x < 4294967296) (ho : fN x 6 0 = 59) (hy : fN x 31 25 = 0) : Row x := by
  have hk : kOf x = kOn (memB [0, 1, 5] (fN x 14 12) 0) 9 (fN x 14 12 : Nat) true := by
    show kF x (fN x 14 12 : Nat) (fN x 31 25 : Nat) = _
    unfold kF; rw [if_neg (show ¬ fN x 6 0 = 55 by omega), if_neg (show ¬ fN x 6 0 = 23 by omega), if_neg (show ¬ fN x 6 0 = 111 by omega), if_neg (show ¬ fN x 6 0 = 103 by omega), if_neg (show ¬ fN x 6 0 = 99 by omega), if_neg (show ¬ fN x 6 0 = 3 by omega), if_neg (show ¬ fN x 6 0 = 35 by omega), if_neg (show ¬ fN x 6 0 = 19 by omega), if_neg (show ¬ fN x 6 0 = 27 by omega), if_neg (show ¬ fN x 6 0 = 51 by omega), if_pos ho]
    unfold kReg
    rw [if_pos (by omega)]
    rw [mem015]; rfl
  refine Row.on _ (fun w => rd_59_0 x hx ho hy w) hk (by decide) fun _ => ?_
  exact (dec_9 x _ _).symm
theorem row_59_32_0 (x : Nat) (hx : x < 4294967296) (ho : fN x 6 0 = 59) (hy : fN x 31 25 = 32) (hf : fN x 14 12 = 0) : Row x := by
  have hk : kOf x = kOn true 9 8 true := by
    show kF x (fN x 14 12 : Nat) (fN x 31 25 : Nat) = _
    unfold kF; rw [if_neg (show ¬ fN x 6 0 = 55 by omega), if_neg (show ¬ fN x 6 0 = 23 by omega), if_neg (show ¬ fN x 6 0 = 111 by omega), if_neg (show ¬ fN x 6 0 = 103 by omega), if_neg (show ¬ fN x 6 0 = 99 by omega), if_neg (show ¬ fN x 6 0 = 3 by omega), if_neg (show ¬ fN x 6 0 = 35 by omega), if_neg (show ¬ fN x 6 0 = 19 by omega), if_neg (show ¬ fN x 6 0 = 27 by omega), if_neg (show ¬ fN x 6 0 = 51 by omega), if_pos ho]
    unfold kReg
    rw [if_neg (by omega), if_pos (by omega), hf]; rfl
  refine Row.on _ (fun w => rd_59_32_0 x hx ho hy hf w) hk (by decide) fun _ => ?_
  exact (dec_9 x _ _).symm
theorem row_59_32 (x : Nat) (hx : x < 4294967296) (ho : fN x 6 0 = 59) (hy : fN x 31 25 = 32) (hf : ¬ fN x 14 12 = 0) : Row x := by
  have hk : kOf x = kOn (((fN x 14 12 : Nat) : Int) == 5) 9 ((fN x 14 12 : Nat) + 8) true := by
    show kF x (fN x 14 12 : Nat) (fN x 31 25 : Nat) = _
    unfold kF; rw [if_neg (show ¬ fN x 6 0 = 55 by omega), if_neg (show ¬ fN x 6 0 = 23 by omega), if_neg (show ¬ fN x 6 0 = 111 by omega), if_neg (show ¬ fN x 6 0 = 103 by omega), if_neg (show ¬ fN x 6 0 = 99 by omega), if_neg (show ¬ fN x 6 0 = 3 by omega), if_neg (show ¬ fN x 6 0 = 35 by omega), if_neg (show ¬ fN x 6 0 = 19 by omega), if_neg (show ¬ fN x 6 0 = 27 by omega), if_neg (show ¬ fN x 6 0 = 51 by omega), if_pos ho]
    unfold kReg
    rw [if_neg (by omega), if_pos (by omega), show (((fN x 14 12 : Nat) : Int) == 0) = false by rw [beq_eq_false_iff_ne]; omega, Bool.false_or]
  refine Row.on _ (fun w => rd_59_32 x hx ho hy hf w) hk (by decide) fun hok => ?_
  have h5 : ((fN x 14 12 : Nat) : Int) = 5 := by simpa using hok
  rw [h5]
  exact (dec_9 x _ _).symm
theorem row_59_1_0 (x : Nat) (hx : x < 4294967296) (ho : fN x 6 0 = 59) (hy : fN x 31 25 = 1) (hf : fN x 14 12 = 0) : Row x := by
  have hk : kOf x = kOn true 9 16 true := by
    show kF x (fN x 14 12 : Nat) (fN x 31 25 : Nat) = _
    unfold kF; rw [if_neg (show ¬ fN x 6 0 = 55 by omega), if_neg (show ¬ fN x 6 0 = 23 by omega), if_neg (show ¬ fN x 6 0 = 111 by omega), if_neg (show ¬ fN x 6 0 = 103 by omega), if_neg (show ¬ fN x 6 0 = 99 by omega), if_neg (show ¬ fN x 6 0 = 3 by omega), if_neg (show ¬ fN x 6 0 = 35 by omega), if_neg (show ¬ fN x 6 0 = 19 by omega), if_neg (show ¬ fN x 6 0 = 27 by omega), if_neg (show ¬ fN x 6 0 = 51 by omega), if_pos ho]
    unfold kReg
    rw [if_neg (by omega), if_neg (by omega), if_pos (by omega), hf]; rfl
  refine Row.on _ (fun w => rd_59_1_0 x hx ho hy hf w) hk (by decide) fun _ => ?_
  exact (dec_9 x _ _).symm
theorem row_59_1_n (x : Nat) (hx : x < 4294967296) (ho : fN x 6 0 = 59) (hy : fN x 31 25 = 1) (hf : ¬ fN x 14 12 = 0) : Row x := by
  have hk : kOf x = kOn (decide (4 ≤ ((fN x 14 12 : Nat) : Int))) 9 (16 + (fN x 14 12 : Nat)) true := by
    show kF x (fN x 14 12 : Nat) (fN x 31 25 : Nat) = _
    unfold kF; rw [if_neg (show ¬ fN x 6 0 = 55 by omega), if_neg (show ¬ fN x 6 0 = 23 by omega), if_neg (show ¬ fN x 6 0 = 111 by omega), if_neg (show ¬ fN x 6 0 = 103 by omega), if_neg (show ¬ fN x 6 0 = 99 by omega), if_neg (show ¬ fN x 6 0 = 3 by omega), if_neg (show ¬ fN x 6 0 = 35 by omega), if_neg (show ¬ fN x 6 0 = 19 by omega), if_neg (show ¬ fN x 6 0 = 27 by omega), if_neg (show ¬ fN x 6 0 = 51 by omega), if_pos ho]
    unfold kReg
    rw [if_neg (by omega), if_neg (by omega), if_pos (by omega), Int.add_comm 16, show ((((fN x 14 12 : Nat) : Int) + 16) == 16) = false by rw [beq_eq_false_iff_ne]; omega]
    have e : decide (20 ≤ ((fN x 14 12 : Nat) : Int) + 16) = decide (4 ≤ ((fN x 14 12 : Nat) : Int)) := by rw [decide_eq_decide]; omega
    rw [e]; rfl
  refine Row.on _ (fun w => rd_59_1_n x hx ho hy hf w) hk (by decide) fun _ => ?_
  exact (dec_9 x _ _).symm
theorem row_59_a (x : Nat) (hx : x < 4294967296) (ho : fN x 6 0 = 59) (hy : fN x 31 25 = 1) : Row x := by
  by_cases hf : fN x 14 12 = 0
  · exact row_59_1_0 x hx ho hy hf
  · exact row_59_1_n x hx ho hy hf
theorem row_59_n (x : Nat) (hx : x < 4294967296) (ho : fN x 6 0 = 59) (h0 : ¬ fN x 31 25 = 0) (h1 : ¬ fN x 31 25 = 1) (h2 : ¬ fN x 31 25 = 32) : Row x := by
  have hk : kOf x = kNo := by
    show kF x (fN x 14 12 : Nat) (fN x 31 25 : Nat) = _
    unfold kF; rw [if_neg (show ¬ fN x 6 0 = 55 by omega), if_neg (show ¬ fN x 6 0 = 23 by omega), if_neg (show ¬ fN x 6 0 = 111 by omega), if_neg (show ¬ fN x 6 0 = 103 by omega), if_neg (show ¬ fN x 6 0 = 99 by omega), if_neg (show ¬ fN x 6 0 = 3 by omega), if_neg (show ¬ fN x 6 0 = 35 by omega), if_neg (show ¬ fN x 6 0 = 19 by omega), if_neg (show ¬ fN x 6 0 = 27 by omega), if_neg (show ¬ fN x 6 0 = 51 by omega), if_pos ho]
    unfold kReg
    rw [if_neg (by omega), if_neg (by omega), if_neg (by omega)]
  exact Row.no (fun w => rd_59_n x hx ho h0 h1 h2 w) hk
theorem row_59 (x : Nat) (hx : x < 4294967296) (ho : fN x 6 0 = 59) : Row x := by
  by_cases h0 : fN x 31 25 = 0
  · exact row_59_0 x hx ho h0
  · by_cases h2 : fN x 31 25 = 32
    · by_cases hf : fN x 14 12 = 0
      · exact row_59_32_0 x hx ho h2 hf
      · exact row_59_32 x hx ho h2 hf
    · by_cases h1 : fN x 31 25 = 1
      · exact row_59_a x hx ho h1
      · exact row_59_n x hx ho h0 h1 h2
theorem sy_k (x q : Nat) (hq : q < 5) (he : sysW.getD q 0 = x) : kOf x = ⟨11, (q : Nat), false⟩ := by
  subst he
  obtain rfl | rfl | rfl | rfl | rfl : q = 0 ∨ q = 1 ∨ q = 2 ∨ q = 3 ∨ q = 4 := by omega
  all_goals kernel_rfl
theorem sy_dec (x q : Nat) (hq : q < 5) : decK x 11 (q : Nat) false = ⟨11, (q : Nat), false, 0, 0, 0, 0⟩ := by
  obtain rfl | rfl | rfl | rfl | rfl : q = 0 ∨ q = 1 ∨ q = 2 ∨ q = 3 ∨ q = 4 := by omega
  all_goals rfl
theorem row_115_h (x : Nat) (hx : x < 4294967296) (ho : fN x 6 0 = 115) (q : Nat) (hq : q < 5) (he : sysW.getD q 0 = x) (hlt : ∀ k, k < q → ¬ sysW.getD k 0 = x) : Row x := by
  exact Row.at' (fun w => rd_115_h x hx ho q hq he hlt w) (sy_k x q hq he) (by decide) (sy_dec x q hq).symm
theorem row_115_sy (x : Nat) (hx : x < 4294967296) (ho : fN x 6 0 = 115) (hm : ∀ k, k < 5 → ¬ sysW.getD k 0 = x) (hf : fN x 14 12 = 0) (h9 : fN x 31 25 = 9) : Row x := by
  have hk : kOf x = kOn (((fN x 11 7 : Nat) : Int) == 0) 11 5 false := by
    show kF x (fN x 14 12 : Nat) (fN x 31 25 : Nat) = _
    unfold kF; rw [if_neg (show ¬ fN x 6 0 = 55 by omega), if_neg (show ¬ fN x 6 0 = 23 by omega), if_neg (show ¬ fN x 6 0 = 111 by omega), if_neg (show ¬ fN x 6 0 = 103 by omega), if_neg (show ¬ fN x 6 0 = 99 by omega), if_neg (show ¬ fN x 6 0 = 3 by omega), if_neg (show ¬ fN x 6 0 = 35 by omega), if_neg (show ¬ fN x 6 0 = 19 by omega), if_neg (show ¬ fN x 6 0 = 27 by omega), if_neg (show ¬ fN x 6 0 = 51 by omega), if_neg (show ¬ fN x 6 0 = 59 by omega), if_neg (show ¬ fN x 6 0 = 15 by omega), if_pos ho]
    have m0 := hm 0 (by decide)
    have m1 := hm 1 (by decide)
    have m2 := hm 2 (by decide)
    have m3 := hm 3 (by decide)
    have m4 := hm 4 (by decide)
    simp only [sysW, List.getD_cons_zero, List.getD_cons_succ] at m0 m1 m2 m3 m4
    unfold kSys
    rw [if_neg (by omega), if_neg (by omega), if_neg (by omega), if_neg (by omega), if_neg (by omega), if_neg (by omega), h9]
    rfl
  refine Row.on _ (fun w => rd_115_sy x hx ho hm hf h9 w) hk (by decide) fun _ => ?_
  rfl
theorem row_115_sn (x : Nat) (hx : x < 4294967296) (ho : fN x 6 0 = 115) (hm : ∀ k, k < 5 → ¬ sysW.getD k 0 = x) (hf : fN x 14 12 = 0) (h9 : ¬ fN x 31 25 = 9) : Row x := by
  have hk : kOf x = kNo := by
    show kF x (fN x 14 12 : Nat) (fN x 31 25 : Nat) = _
    unfold kF; rw [if_neg (show ¬ fN x 6 0 = 55 by omega), if_neg (show ¬ fN x 6 0 = 23 by omega), if_neg (show ¬ fN x 6 0 = 111 by omega), if_neg (show ¬ fN x 6 0 = 103 by omega), if_neg (show ¬ fN x 6 0 = 99 by omega), if_neg (show ¬ fN x 6 0 = 3 by omega), if_neg (show ¬ fN x 6 0 = 35 by omega), if_neg (show ¬ fN x 6 0 = 19 by omega), if_neg (show ¬ fN x 6 0 = 27 by omega), if_neg (show ¬ fN x 6 0 = 51 by omega), if_neg (show ¬ fN x 6 0 = 59 by omega), if_neg (show ¬ fN x 6 0 = 15 by omega), if_pos ho]
    have m0 := hm 0 (by decide)
    have m1 := hm 1 (by decide)
    have m2 := hm 2 (by decide)
    have m3 := hm 3 (by decide)
    have m4 := hm 4 (by decide)
    simp only [sysW, List.getD_cons_zero, List.getD_cons_succ] at m0 m1 m2 m3 m4
    unfold kSys
    rw [if_neg (by omega), if_neg (by omega), if_neg (by omega), if_neg (by omega), if_neg (by omega), if_neg (by omega), show (((fN x 31 25 : Nat) : Int) == 9) = false by rw [beq_eq_false_iff_ne]; omega]
    rfl
  exact Row.no (fun w => rd_115_sn x hx ho hm hf h9 w) hk
theorem row_115_c (x : Nat) (hx : x < 4294967296) (ho : fN x 6 0 = 115) (hm : ∀ k, k < 5 → ¬ sysW.getD k 0 = x) (hf : ¬ fN x 14 12 = 0) : Row x := by
  have hk : kOf x = kOn (((fN x 14 12 : Nat) : Int) != 4) 12 (fN x 14 12 : Nat) false := by
    show kF x (fN x 14 12 : Nat) (fN x 31 25 : Nat) = _
    unfold kF; rw [if_neg (show ¬ fN x 6 0 = 55 by omega), if_neg (show ¬ fN x 6 0 = 23 by omega), if_neg (show ¬ fN x 6 0 = 111 by omega), if_neg (show ¬ fN x 6 0 = 103 by omega), if_neg (show ¬ fN x 6 0 = 99 by omega), if_neg (show ¬ fN x 6 0 = 3 by omega), if_neg (show ¬ fN x 6 0 = 35 by omega), if_neg (show ¬ fN x 6 0 = 19 by omega), if_neg (show ¬ fN x 6 0 = 27 by omega), if_neg (show ¬ fN x 6 0 = 51 by omega), if_neg (show ¬ fN x 6 0 = 59 by omega), if_neg (show ¬ fN x 6 0 = 15 by omega), if_pos ho]
    have m0 := hm 0 (by decide)
    have m1 := hm 1 (by decide)
    have m2 := hm 2 (by decide)
    have m3 := hm 3 (by decide)
    have m4 := hm 4 (by decide)
    simp only [sysW, List.getD_cons_zero, List.getD_cons_succ] at m0 m1 m2 m3 m4
    unfold kSys
    rw [if_neg (by omega), if_neg (by omega), if_neg (by omega), if_neg (by omega), if_neg (by omega), if_pos (by omega)]
  refine Row.on _ (fun w => rd_115_c x hx ho hm hf w) hk (by decide) fun _ => ?_
  unfold decK
  rw [show shp 12 (fN x 14 12 : Nat) = tw 64 by simp [shp]]
  show _ = Ins.mk _ _ _ _ _ _ (sextV (orK x [⟨31, 20, 0⟩] 1 : Nat) 64)
  rw [or_i, sextV64]
  rfl
theorem row_115 (x : Nat) (hx : x < 4294967296) (ho : fN x 6 0 = 115) : Row x := by
  by_cases hm : ∀ k, k < 5 → ¬ sysW.getD k 0 = x
  · by_cases hf : fN x 14 12 = 0
    · by_cases h9 : fN x 31 25 = 9
      · exact row_115_sy x hx ho hm hf h9
      · exact row_115_sn x hx ho hm hf h9
    · exact row_115_c x hx ho hm hf
  · have hex : ∃ q, q < 5 ∧ sysW.getD q 0 = x := by
      refine Classical.byContradiction fun h => hm fun k hk he => h ⟨k, hk, he⟩
    obtain ⟨q, hq, he⟩ := hex
    refine row_115_h x hx ho q hq he fun k hk => ?_
    subst he
    obtain rfl | rfl | rfl | rfl | rfl : q = 0 ∨ q = 1 ∨ q = 2 ∨ q = 3 ∨ q = 4 := by omega
    all_goals
      obtain rfl | rfl | rfl | rfl | rfl : k = 0 ∨ k = 1 ∨ k = 2 ∨ k = 3 ∨ k = 4 := by omega
      all_goals first | omega | decide
theorem amo_mem (n : Nat) : memB [0, 1, 3, 4, 8, 12, 16, 20, 24, 28] n 0 = amoIs n := by
  unfold memB amoIs
  rw [Bool.eq_iff_iff]
  simp
  omega
theorem dec_13 (x : Nat) (f : Int) (d : Bool) : decK x 13 f d = ⟨13, f, d, (fN x 11 7 : Nat), (fN x 19 15 : Nat), (fN x 24 20 : Nat), 0⟩ := by
  unfold decK
  rw [show shp 13 f = ⟨true, true, true, [], 0⟩ by simp [shp]]
  rfl
theorem row_47_2a (x : Nat) (hx : x < 4294967296) (ho : fN x 6 0 = 47) (hf : fN x 14 12 = 2) (hm : memB [0, 1, 3, 4, 8, 12, 16, 20, 24, 28] (fN x 31 27) 0 = true) : Row x := by
  have hk : kOf x = ⟨13, (fN x 31 27 : Nat), true⟩ := by
    show kF x (fN x 14 12 : Nat) (fN x 31 25 : Nat) = _
    unfold kF; rw [if_neg (show ¬ fN x 6 0 = 55 by omega), if_neg (show ¬ fN x 6 0 = 23 by omega), if_neg (show ¬ fN x 6 0 = 111 by omega), if_neg (show ¬ fN x 6 0 = 103 by omega), if_neg (show ¬ fN x 6 0 = 99 by omega), if_neg (show ¬ fN x 6 0 = 3 by omega), if_neg (show ¬ fN x 6 0 = 35 by omega), if_neg (show ¬ fN x 6 0 = 19 by omega), if_neg (show ¬ fN x 6 0 = 27 by omega), if_neg (show ¬ fN x 6 0 = 51 by omega), if_neg (show ¬ fN x 6 0 = 59 by omega), if_neg (show ¬ fN x 6 0 = 15 by omega), if_neg (show ¬ fN x 6 0 = 115 by omega), if_pos ho]
    rw [amo_mem] at hm
    unfold kAmo
    rw [if_pos (by omega), if_pos hm, hf]; rfl
  refine Row.at' (fun w => rd_47_2a x hx ho hf hm w) hk (by decide) ?_
  rw [dec_13]
theorem row_47_2b (x : Nat) (hx : x < 4294967296) (ho : fN x 6 0 = 47) (hf : fN x 14 12 = 2) (hm : memB [0, 1, 3, 4, 8, 12, 16, 20, 24, 28] (fN x 31 27) 0 = false) (hg : fN x 31 27 = 2) (hr : fN x 24 20 = 0) : Row x := by
  have hk : kOf x = ⟨13, 2, true⟩ := by
    show kF x (fN x 14 12 : Nat) (fN x 31 25 : Nat) = _
    unfold kF; rw [if_neg (show ¬ fN x 6 0 = 55 by omega), if_neg (show ¬ fN x 6 0 = 23 by omega), if_neg (show ¬ fN x 6 0 = 111 by omega), if_neg (show ¬ fN x 6 0 = 103 by omega), if_neg (show ¬ fN x 6 0 = 99 by omega), if_neg (show ¬ fN x 6 0 = 3 by omega), if_neg (show ¬ fN x 6 0 = 35 by omega), if_neg (show ¬ fN x 6 0 = 19 by omega), if_neg (show ¬ fN x 6 0 = 27 by omega), if_neg (show ¬ fN x 6 0 = 51 by omega), if_neg (show ¬ fN x 6 0 = 59 by omega), if_neg (show ¬ fN x 6 0 = 15 by omega), if_neg (show ¬ fN x 6 0 = 115 by omega), if_pos ho]
    rw [amo_mem] at hm
    unfold kAmo
    rw [if_pos (by omega), if_neg (by rw [hm]; decide), if_pos hg, hg, hr, hf]; rfl
  refine Row.at' (fun w => rd_47_2b x hx ho hf hm hg hr w) hk (by decide) ?_
  rw [dec_13, hr]
  rfl
theorem row_47_2c (x : Nat) (hx : x < 4294967296) (ho : fN x 6 0 = 47) (hf : fN x 14 12 = 2) (hm : memB [0, 1, 3, 4, 8, 12, 16, 20, 24, 28] (fN x 31 27) 0 = false) (hg : fN x 31 27 = 2) (hr : ¬ fN x 24 20 = 0) : Row x := by
  have hk : kOf x = kNo := by
    show kF x (fN x 14 12 : Nat) (fN x 31 25 : Nat) = _
    unfold kF; rw [if_neg (show ¬ fN x 6 0 = 55 by omega), if_neg (show ¬ fN x 6 0 = 23 by omega), if_neg (show ¬ fN x 6 0 = 111 by omega), if_neg (show ¬ fN x 6 0 = 103 by omega), if_neg (show ¬ fN x 6 0 = 99 by omega), if_neg (show ¬ fN x 6 0 = 3 by omega), if_neg (show ¬ fN x 6 0 = 35 by omega), if_neg (show ¬ fN x 6 0 = 19 by omega), if_neg (show ¬ fN x 6 0 = 27 by omega), if_neg (show ¬ fN x 6 0 = 51 by omega), if_neg (show ¬ fN x 6 0 = 59 by omega), if_neg (show ¬ fN x 6 0 = 15 by omega), if_neg (show ¬ fN x 6 0 = 115 by omega), if_pos ho]
    rw [amo_mem] at hm
    unfold kAmo
    rw [if_pos (by omega), if_neg (by rw [hm]; decide), if_pos hg, show (((fN x 24 20 : Nat) : Int) == 0) = false by rw [beq_eq_false_iff_ne]; omega]; rfl
  exact Row.no (fun w => rd_47_2c x hx ho hf hm hg hr w) hk
theorem row_47_2d (x : Nat) (hx : x < 4294967296) (ho : fN x 6 0 = 47) (hf : fN x 14 12 = 2) (hm : memB [0, 1, 3, 4, 8, 12, 16, 20, 24, 28] (fN x 31 27) 0 = false) (hg : ¬ fN x 31 27 = 2) : Row x := by
  have hk : kOf x = kNo := by
    show kF x (fN x 14 12 : Nat) (fN x 31 25 : Nat) = _
    unfold kF; rw [if_neg (show ¬ fN x 6 0 = 55 by omega), if_neg (show ¬ fN x 6 0 = 23 by omega), if_neg (show ¬ fN x 6 0 = 111 by omega), if_neg (show ¬ fN x 6 0 = 103 by omega), if_neg (show ¬ fN x 6 0 = 99 by omega), if_neg (show ¬ fN x 6 0 = 3 by omega), if_neg (show ¬ fN x 6 0 = 35 by omega), if_neg (show ¬ fN x 6 0 = 19 by omega), if_neg (show ¬ fN x 6 0 = 27 by omega), if_neg (show ¬ fN x 6 0 = 51 by omega), if_neg (show ¬ fN x 6 0 = 59 by omega), if_neg (show ¬ fN x 6 0 = 15 by omega), if_neg (show ¬ fN x 6 0 = 115 by omega), if_pos ho]
    rw [amo_mem] at hm
    unfold kAmo
    rw [if_pos (by omega), if_neg (by rw [hm]; decide), if_neg hg]
  exact Row.no (fun w => rd_47_2d x hx ho hf hm hg w) hk
theorem row_47_2 (x : Nat) (hx : x < 4294967296) (ho : fN x 6 0 = 47) (hf : fN x 14 12 = 2) : Row x := by
  cases hm : memB [0, 1, 3, 4, 8, 12, 16, 20, 24, 28] (fN x 31 27) 0
  · by_cases hg : fN x 31 27 = 2
    · by_cases hr : fN x 24 20 = 0
      · exact row_47_2b x hx ho hf hm hg hr
      · exact row_47_2c x hx ho hf hm hg hr
    · exact row_47_2d x hx ho hf hm hg
  · exact row_47_2a x hx ho hf hm
theorem row_47_3a (x : Nat) (hx : x < 4294967296) (ho : fN x 6 0 = 47) (hf : fN x 14 12 = 3) (hm : memB [0, 1, 3, 4, 8, 12, 16, 20, 24, 28] (fN x 31 27) 0 = true) : Row x := by
  have hk : kOf x = ⟨13, (fN x 31 27 : Nat), false⟩ := by
    show kF x (fN x 14 12 : Nat) (fN x 31 25 : Nat) = _
    unfold kF; rw [if_neg (show ¬ fN x 6 0 = 55 by omega), if_neg (show ¬ fN x 6 0 = 23 by omega), if_neg (show ¬ fN x 6 0 = 111 by omega), if_neg (show ¬ fN x 6 0 = 103 by omega), if_neg (show ¬ fN x 6 0 = 99 by omega), if_neg (show ¬ fN x 6 0 = 3 by omega), if_neg (show ¬ fN x 6 0 = 35 by omega), if_neg (show ¬ fN x 6 0 = 19 by omega), if_neg (show ¬ fN x 6 0 = 27 by omega), if_neg (show ¬ fN x 6 0 = 51 by omega), if_neg (show ¬ fN x 6 0 = 59 by omega), if_neg (show ¬ fN x 6 0 = 15 by omega), if_neg (show ¬ fN x 6 0 = 115 by omega), if_pos ho]
    rw [amo_mem] at hm
    unfold kAmo
    rw [if_pos (by omega), if_pos hm, hf]; rfl
  refine Row.at' (fun w => rd_47_3a x hx ho hf hm w) hk (by decide) ?_
  rw [dec_13]
theorem row_47_3b (x : Nat) (hx : x < 4294967296) (ho : fN x 6 0 = 47) (hf : fN x 14 12 = 3) (hm : memB [0, 1, 3, 4, 8, 12, 16, 20, 24, 28] (fN x 31 27) 0 = false) (hg : fN x 31 27 = 2) (hr : fN x 24 20 = 0) : Row x := by
  have hk : kOf x = ⟨13, 2, false⟩ := by
    show kF x (fN x 14 12 : Nat) (fN x 31 25 : Nat) = _
    unfold kF; rw [if_neg (show ¬ fN x 6 0 = 55 by omega), if_neg (show ¬ fN x 6 0 = 23 by omega), if_neg (show ¬ fN x 6 0 = 111 by omega), if_neg (show ¬ fN x 6 0 = 103 by omega), if_neg (show ¬ fN x 6 0 = 99 by omega), if_neg (show ¬ fN x 6 0 = 3 by omega), if_neg (show ¬ fN x 6 0 = 35 by omega), if_neg (show ¬ fN x 6 0 = 19 by omega), if_neg (show ¬ fN x 6 0 = 27 by omega), if_neg (show ¬ fN x 6 0 = 51 by omega), if_neg (show ¬ fN x 6 0 = 59 by omega), if_neg (show ¬ fN x 6 0 = 15 by omega), if_neg (show ¬ fN x 6 0 = 115 by omega), if_pos ho]
    rw [amo_mem] at hm
    unfold kAmo
    rw [if_pos (by omega), if_neg (by rw [hm]; decide), if_pos hg, hg, hr, hf]; rfl
  refine Row.at' (fun w => rd_47_3b x hx ho hf hm hg hr w) hk (by decide) ?_
  rw [dec_13, hr]
  rfl
theorem row_47_3c (x : Nat) (hx : x < 4294967296) (ho : fN x 6 0 = 47) (hf : fN x 14 12 = 3) (hm : memB [0, 1, 3, 4, 8, 12, 16, 20, 24, 28] (fN x 31 27) 0 = false) (hg : fN x 31 27 = 2) (hr : ¬ fN x 24 20 = 0) : Row x := by
  have hk : kOf x = kNo := by
    show kF x (fN x 14 12 : Nat) (fN x 31 25 : Nat) = _
    unfold kF; rw [if_neg (show ¬ fN x 6 0 = 55 by omega), if_neg (show ¬ fN x 6 0 = 23 by omega), if_neg (show ¬ fN x 6 0 = 111 by omega), if_neg (show ¬ fN x 6 0 = 103 by omega), if_neg (show ¬ fN x 6 0 = 99 by omega), if_neg (show ¬ fN x 6 0 = 3 by omega), if_neg (show ¬ fN x 6 0 = 35 by omega), if_neg (show ¬ fN x 6 0 = 19 by omega), if_neg (show ¬ fN x 6 0 = 27 by omega), if_neg (show ¬ fN x 6 0 = 51 by omega), if_neg (show ¬ fN x 6 0 = 59 by omega), if_neg (show ¬ fN x 6 0 = 15 by omega), if_neg (show ¬ fN x 6 0 = 115 by omega), if_pos ho]
    rw [amo_mem] at hm
    unfold kAmo
    rw [if_pos (by omega), if_neg (by rw [hm]; decide), if_pos hg, show (((fN x 24 20 : Nat) : Int) == 0) = false by rw [beq_eq_false_iff_ne]; omega]; rfl
  exact Row.no (fun w => rd_47_3c x hx ho hf hm hg hr w) hk
theorem row_47_3d (x : Nat) (hx : x < 4294967296) (ho : fN x 6 0 = 47) (hf : fN x 14 12 = 3) (hm : memB [0, 1, 3, 4, 8, 12, 16, 20, 24, 28] (fN x 31 27) 0 = false) (hg : ¬ fN x 31 27 = 2) : Row x := by
  have hk : kOf x = kNo := by
    show kF x (fN x 14 12 : Nat) (fN x 31 25 : Nat) = _
    unfold kF; rw [if_neg (show ¬ fN x 6 0 = 55 by omega), if_neg (show ¬ fN x 6 0 = 23 by omega), if_neg (show ¬ fN x 6 0 = 111 by omega), if_neg (show ¬ fN x 6 0 = 103 by omega), if_neg (show ¬ fN x 6 0 = 99 by omega), if_neg (show ¬ fN x 6 0 = 3 by omega), if_neg (show ¬ fN x 6 0 = 35 by omega), if_neg (show ¬ fN x 6 0 = 19 by omega), if_neg (show ¬ fN x 6 0 = 27 by omega), if_neg (show ¬ fN x 6 0 = 51 by omega), if_neg (show ¬ fN x 6 0 = 59 by omega), if_neg (show ¬ fN x 6 0 = 15 by omega), if_neg (show ¬ fN x 6 0 = 115 by omega), if_pos ho]
    rw [amo_mem] at hm
    unfold kAmo
    rw [if_pos (by omega), if_neg (by rw [hm]; decide), if_neg hg]
  exact Row.no (fun w => rd_47_3d x hx ho hf hm hg w) hk
theorem row_47_3 (x : Nat) (hx : x < 4294967296) (ho : fN x 6 0 = 47) (hf : fN x 14 12 = 3) : Row x := by
  cases hm : memB [0, 1, 3, 4, 8, 12, 16, 20, 24, 28] (fN x 31 27) 0
  · by_cases hg : fN x 31 27 = 2
    · by_cases hr : fN x 24 20 = 0
      · exact row_47_3b x hx ho hf hm hg hr
      · exact row_47_3c x hx ho hf hm hg hr
    · exact row_47_3d x hx ho hf hm hg
  · exact row_47_3a x hx ho hf hm
theorem row_47_oa (x : Nat) (hx : x < 4294967296) (ho : fN x 6 0 = 47) (h2 : ¬ fN x 14 12 = 2) (h3 : ¬ fN x 14 12 = 3) (hm : memB [0, 1, 3, 4, 8, 12, 16, 20, 24, 28] (fN x 31 27) 0 = true) : Row x := by
  have hk : kOf x = kNo := by
    show kF x (fN x 14 12 : Nat) (fN x 31 25 : Nat) = _
    unfold kF; rw [if_neg (show ¬ fN x 6 0 = 55 by omega), if_neg (show ¬ fN x 6 0 = 23 by omega), if_neg (show ¬ fN x 6 0 = 111 by omega), if_neg (show ¬ fN x 6 0 = 103 by omega), if_neg (show ¬ fN x 6 0 = 99 by omega), if_neg (show ¬ fN x 6 0 = 3 by omega), if_neg (show ¬ fN x 6 0 = 35 by omega), if_neg (show ¬ fN x 6 0 = 19 by omega), if_neg (show ¬ fN x 6 0 = 27 by omega), if_neg (show ¬ fN x 6 0 = 51 by omega), if_neg (show ¬ fN x 6 0 = 59 by omega), if_neg (show ¬ fN x 6 0 = 15 by omega), if_neg (show ¬ fN x 6 0 = 115 by omega), if_pos ho]
    unfold kAmo
    rw [if_neg (by omega)]
  exact Row.no (fun w => rd_47_oa x hx ho h2 h3 hm w) hk
theorem row_47_ob (x : Nat) (hx : x < 4294967296) (ho : fN x 6 0 = 47) (h2 : ¬ fN x 14 12 = 2) (h3 : ¬ fN x 14 12 = 3) (hm : memB [0, 1, 3, 4, 8, 12, 16, 20, 24, 28] (fN x 31 27) 0 = false) (hg : fN x 31 27 = 2) (hr : fN x 24 20 = 0) : Row x := by
  have hk : kOf x = kNo := by
    show kF x (fN x 14 12 : Nat) (fN x 31 25 : Nat) = _
    unfold kF; rw [if_neg (show ¬ fN x 6 0 = 55 by omega), if_neg (show ¬ fN x 6 0 = 23 by omega), if_neg (show ¬ fN x 6 0 = 111 by omega), if_neg (show ¬ fN x 6 0 = 103 by omega), if_neg (show ¬ fN x 6 0 = 99 by omega), if_neg (show ¬ fN x 6 0 = 3 by omega), if_neg (show ¬ fN x 6 0 = 35 by omega), if_neg (show ¬ fN x 6 0 = 19 by omega), if_neg (show ¬ fN x 6 0 = 27 by omega), if_neg (show ¬ fN x 6 0 = 51 by omega), if_neg (show ¬ fN x 6 0 = 59 by omega), if_neg (show ¬ fN x 6 0 = 15 by omega), if_neg (show ¬ fN x 6 0 = 115 by omega), if_pos ho]
    unfold kAmo
    rw [if_neg (by omega)]
  exact Row.no (fun w => rd_47_ob x hx ho h2 h3 hm hg hr w) hk
theorem row_47_oc (x : Nat) (hx : x < 4294967296) (ho : fN x 6 0 = 47) (h2 : ¬ fN x 14 12 = 2) (h3 : ¬ fN x 14 12 = 3) (hm : memB [0, 1, 3, 4, 8, 12, 16, 20, 24, 28] (fN x 31 27) 0 = false) (hg : fN x 31 27 = 2) (hr : ¬ fN x 24 20 = 0) : Row x := by
  have hk : kOf x = kNo := by
    show kF x (fN x 14 12 : Nat) (fN x 31 25 : Nat) = _
    unfold kF; rw [if_neg (show ¬ fN x 6 0 = 55 by omega), if_neg (show ¬ fN x 6 0 = 23 by omega), if_neg (show ¬ fN x 6 0 = 111 by omega), if_neg (show ¬ fN x 6 0 = 103 by omega), if_neg (show ¬ fN x 6 0 = 99 by omega), if_neg (show ¬ fN x 6 0 = 3 by omega), if_neg (show ¬ fN x 6 0 = 35 by omega), if_neg (show ¬ fN x 6 0 = 19 by omega), if_neg (show ¬ fN x 6 0 = 27 by omega), if_neg (show ¬ fN x 6 0 = 51 by omega), if_neg (show ¬ fN x 6 0 = 59 by omega), if_neg (show ¬ fN x 6 0 = 15 by omega), if_neg (show ¬ fN x 6 0 = 115 by omega), if_pos ho]
    unfold kAmo
    rw [if_neg (by omega)]
  exact Row.no (fun w => rd_47_oc x hx ho h2 h3 hm hg hr w) hk
theorem row_47_od (x : Nat) (hx : x < 4294967296) (ho : fN x 6 0 = 47) (h2 : ¬ fN x 14 12 = 2) (h3 : ¬ fN x 14 12 = 3) (hm : memB [0, 1, 3, 4, 8, 12, 16, 20, 24, 28] (fN x 31 27) 0 = false) (hg : ¬ fN x 31 27 = 2) : Row x := by
  have hk : kOf x = kNo := by
    show kF x (fN x 14 12 : Nat) (fN x 31 25 : Nat) = _
    unfold kF; rw [if_neg (show ¬ fN x 6 0 = 55 by omega), if_neg (show ¬ fN x 6 0 = 23 by omega), if_neg (show ¬ fN x 6 0 = 111 by omega), if_neg (show ¬ fN x 6 0 = 103 by omega), if_neg (show ¬ fN x 6 0 = 99 by omega), if_neg (show ¬ fN x 6 0 = 3 by omega), if_neg (show ¬ fN x 6 0 = 35 by omega), if_neg (show ¬ fN x 6 0 = 19 by omega), if_neg (show ¬ fN x 6 0 = 27 by omega), if_neg (show ¬ fN x 6 0 = 51 by omega), if_neg (show ¬ fN x 6 0 = 59 by omega), if_neg (show ¬ fN x 6 0 = 15 by omega), if_neg (show ¬ fN x 6 0 = 115 by omega), if_pos ho]
    unfold kAmo
    rw [if_neg (by omega)]
  exact Row.no (fun w => rd_47_od x hx ho h2 h3 hm hg w) hk
theorem row_47_o (x : Nat) (hx : x < 4294967296) (ho : fN x 6 0 = 47) (h2 : ¬ fN x 14 12 = 2) (h3 : ¬ fN x 14 12 = 3) : Row x := by
  cases hm : memB [0, 1, 3, 4, 8, 12, 16, 20, 24, 28] (fN x 31 27) 0
  · by_cases hg : fN x 31 27 = 2
    · by_cases hr : fN x 24 20 = 0
      · exact row_47_ob x hx ho h2 h3 hm hg hr
      · exact row_47_oc x hx ho h2 h3 hm hg hr
    · exact row_47_od x hx ho h2 h3 hm hg
  · exact row_47_oa x hx ho h2 h3 hm
theorem row_47 (x : Nat) (hx : x < 4294967296) (ho : fN x 6 0 = 47) : Row x := by
  by_cases h2 : fN x 14 12 = 2
  · exact row_47_2 x hx ho h2
  · by_cases h3 : fN x 14 12 = 3
    · exact row_47_3 x hx ho h3
    · exact row_47_o x hx ho h2 h3
theorem row_99 (x : Nat) (hx : x < 4294967296) (ho : fN x 6 0 = 99) : Row x := by
  have f8 := f3_lt x
  obtain h | h | h | h | h | h | h | h : fN x 14 12 = 0 ∨ fN x 14 12 = 1 ∨ fN x 14 12 = 2 ∨ fN x 14 12 = 3 ∨ fN x 14 12 = 4 ∨ fN x 14 12 = 5 ∨ fN x 14 12 = 6 ∨ fN x 14 12 = 7 := by omega
  · exact row_99_0 x hx ho h
  · exact row_99_1 x hx ho h
  · exact row_99_2 x hx ho h
  · exact row_99_3 x hx ho h
  · exact row_99_4 x hx ho h
  · exact row_99_5 x hx ho h
  · exact row_99_6 x hx ho h
  · exact row_99_7 x hx ho h
theorem row_none (x : Nat) (hx : x < 4294967296) (h55 : ¬ fN x 6 0 = 55) (h23 : ¬ fN x 6 0 = 23) (h111 : ¬ fN x 6 0 = 111) (h103 : ¬ fN x 6 0 = 103) (h99 : ¬ fN x 6 0 = 99) (h3 : ¬ fN x 6 0 = 3) (h35 : ¬ fN x 6 0 = 35) (h19 : ¬ fN x 6 0 = 19) (h27 : ¬ fN x 6 0 = 27) (h51 : ¬ fN x 6 0 = 51) (h59 : ¬ fN x 6 0 = 59) (h15 : ¬ fN x 6 0 = 15) (h115 : ¬ fN x 6 0 = 115) (h47 : ¬ fN x 6 0 = 47) : Row x := by
  have hk : kOf x = kNo := by
    show kF x (fN x 14 12 : Nat) (fN x 31 25 : Nat) = _
    unfold kF
    rw [if_neg h55, if_neg h23, if_neg h111, if_neg h103, if_neg h99, if_neg h3, if_neg h35, if_neg h19, if_neg h27, if_neg h51, if_neg h59, if_neg h15, if_neg h115, if_neg h47]
  exact Row.no (fun w => rd_none x hx h55 h23 h111 h103 h99 h3 h35 h19 h27 h51 h59 h15 h115 h47 w) hk
theorem rows (x : Nat) (hx : x < 4294967296) : Row x := by
  by_cases h55 : fN x 6 0 = 55
  · exact row_55 x hx h55
  by_cases h23 : fN x 6 0 = 23
  · exact row_23 x hx h23
  by_cases h111 : fN x 6 0 = 111
  · exact row_111 x hx h111
  by_cases h103 : fN x 6 0 = 103
  · exact row_103 x hx h103
  by_cases h99 : fN x 6 0 = 99
  · exact row_99 x hx h99
  by_cases h3 : fN x 6 0 = 3
  · exact row_3 x hx h3
  by_cases h35 : fN x 6 0 = 35
  · exact row_35 x hx h35
  by_cases h19 : fN x 6 0 = 19
  · exact row_19 x hx h19
  by_cases h27 : fN x 6 0 = 27
  · exact row_27 x hx h27
  by_cases h51 : fN x 6 0 = 51
  · exact row_51 x hx h51
  by_cases h59 : fN x 6 0 = 59
  · exact row_59 x hx h59
  by_cases h15 : fN x 6 0 = 15
  · exact row_15 x hx h15
  by_cases h115 : fN x 6 0 = 115
  · exact row_115 x hx h115
  by_cases h47 : fN x 6 0 = 47
  · exact row_47 x hx h47
  exact row_none x hx h55 h23 h111 h103 h99 h3 h35 h19 h27 h51 h59 h15 h115 h47

set_option maxHeartbeats 1000000 in
theorem refDec_c (x : Nat) (hx : x < 4294967296) (w : World) :
    Calls Try.prog 12 #[.int .u32 (x : Nat)] w fun e w' => e = .returned (.tuple #[iV (if noB (kOf x) then noI else decI x), .bool (!noB (kOf x))]) ∧ Grew w w' := by
  obtain ⟨I, ok, hc, ho, hI⟩ := rows x hx
  cases ok
  · have hn : noB (kOf x) = true := by
      cases h : noB (kOf x)
      · rw [h] at ho; cases ho
      · rfl
    rw [if_pos hn, hn]
    clear ho hI hn
    obtain ⟨c, f, d, r1, r2, r3, m⟩ := I
    go_enter Try.func12, Try.ntmps12
    go_wp2_with fail
    refine (hc _).mono ?_
    rintro e w1 ⟨rfl, g1⟩
    have kR := ((Blk.new w #[.int .i64 0, .int .i64 0, .bool false, .int .i64 0, .int .i64 0, .int .i64 0, .int .u64 0] 26 w.heap.size rfl).grew g1).alloc (.cells #[.int .i64 c, .int .i64 f, .bool d, .int .i64 r1, .int .i64 r2, .int .i64 r3, .int .u64 m] 26)
    have kI := Blk.new w1 #[.int .i64 c, .int .i64 f, .bool d, .int .i64 r1, .int .i64 r2, .int .i64 r3, .int .u64 m] 26 w1.heap.size rfl
    have G := (((Grew.refl w).alloc (.cells #[.int .i64 0, .int .i64 0, .bool false, .int .i64 0, .int .i64 0, .int .i64 0, .int .u64 0] 26)).trans g1).alloc (.cells #[.int .i64 c, .int .i64 f, .bool d, .int .i64 r1, .int .i64 r2, .int .i64 r3, .int .u64 m] 26)
    clear g1 hc
    go_upto_region 3 with fail
    generalize w1.alloc (.cells #[.int .i64 c, .int .i64 f, .bool d, .int .i64 r1, .int .i64 r2, .int .i64 r3, .int .u64 m] 26) = w2 at *
    generalize w1.heap.size = q at *
    have z0 : w2.cell? ⟨w.heap.size, 0, none⟩ = some (.int .i64 0) := kR.cell 0
    have z1 : w2.cell? ⟨w.heap.size, 1, none⟩ = some (.int .i64 0) := kR.cell 1
    have z2 : w2.cell? ⟨w.heap.size, 2, none⟩ = some (.bool false) := kR.cell 2
    have z3 : w2.cell? ⟨w.heap.size, 3, none⟩ = some (.int .i64 0) := kR.cell 3
    have z4 : w2.cell? ⟨w.heap.size, 4, none⟩ = some (.int .i64 0) := kR.cell 4
    have z5 : w2.cell? ⟨w.heap.size, 5, none⟩ = some (.int .i64 0) := kR.cell 5
    have z6 : w2.cell? ⟨w.heap.size, 6, none⟩ = some (.int .u64 0) := kR.cell 6
    have y0 : w2.cell? ⟨q, 0, none⟩ = some (.int .i64 c) := kI.cell 0
    have y1 : w2.cell? ⟨q, 1, none⟩ = some (.int .i64 f) := kI.cell 1
    have y2 : w2.cell? ⟨q, 2, none⟩ = some (.bool d) := kI.cell 2
    have y3 : w2.cell? ⟨q, 3, none⟩ = some (.int .i64 r1) := kI.cell 3
    have y4 : w2.cell? ⟨q, 4, none⟩ = some (.int .i64 r2) := kI.cell 4
    have y5 : w2.cell? ⟨q, 5, none⟩ = some (.int .i64 r3) := kI.cell 5
    have y6 : w2.cell? ⟨q, 6, none⟩ = some (.int .u64 m) := kI.cell 6
    have fr : ∀ o, w2.frozen? ⟨w.heap.size, o, none⟩ = false := kR.free
    have hR := kR.lt
    clear kR kI
    go_wp2_with fail
    refine bodyPost_ret (v := .tuple #[.agg #[.int .i64 0, .int .i64 0, .bool false, .int .i64 0, .int .i64 0, .int .i64 0, .int .u64 0], .bool false]) (by simp [results, Try.results12, go_sem, z0, z1, z2, z3, z4, z5, z6]) rfl ⟨rfl, (by repeat (first | with_reducible exact G | with_reducible refine Grew.setCell ?_ (Nat.le_refl _) _))⟩
  · have hn : noB (kOf x) = false := by
      cases h : noB (kOf x)
      · rfl
      · rw [h] at ho; cases ho
    rw [if_neg (by rw [hn]; decide), hn, ← hI rfl]
    clear ho hI hn
    obtain ⟨c, f, d, r1, r2, r3, m⟩ := I
    go_enter Try.func12, Try.ntmps12
    go_wp2_with fail
    refine (hc _).mono ?_
    rintro e w1 ⟨rfl, g1⟩
    have kR := ((Blk.new w #[.int .i64 0, .int .i64 0, .bool false, .int .i64 0, .int .i64 0, .int .i64 0, .int .u64 0] 26 w.heap.size rfl).grew g1).alloc (.cells #[.int .i64 c, .int .i64 f, .bool d, .int .i64 r1, .int .i64 r2, .int .i64 r3, .int .u64 m] 26)
    have kI := Blk.new w1 #[.int .i64 c, .int .i64 f, .bool d, .int .i64 r1, .int .i64 r2, .int .i64 r3, .int .u64 m] 26 w1.heap.size rfl
    have G := (((Grew.refl w).alloc (.cells #[.int .i64 0, .int .i64 0, .bool false, .int .i64 0, .int .i64 0, .int .i64 0, .int .u64 0] 26)).trans g1).alloc (.cells #[.int .i64 c, .int .i64 f, .bool d, .int .i64 r1, .int .i64 r2, .int .i64 r3, .int .u64 m] 26)
    clear g1 hc
    go_upto_region 4 with fail
    generalize w1.alloc (.cells #[.int .i64 c, .int .i64 f, .bool d, .int .i64 r1, .int .i64 r2, .int .i64 r3, .int .u64 m] 26) = w2 at *
    generalize w1.heap.size = q at *
    have z0 : w2.cell? ⟨w.heap.size, 0, none⟩ = some (.int .i64 0) := kR.cell 0
    have z1 : w2.cell? ⟨w.heap.size, 1, none⟩ = some (.int .i64 0) := kR.cell 1
    have z2 : w2.cell? ⟨w.heap.size, 2, none⟩ = some (.bool false) := kR.cell 2
    have z3 : w2.cell? ⟨w.heap.size, 3, none⟩ = some (.int .i64 0) := kR.cell 3
    have z4 : w2.cell? ⟨w.heap.size, 4, none⟩ = some (.int .i64 0) := kR.cell 4
    have z5 : w2.cell? ⟨w.heap.size, 5, none⟩ = some (.int .i64 0) := kR.cell 5
    have z6 : w2.cell? ⟨w.heap.size, 6, none⟩ = some (.int .u64 0) := kR.cell 6
    have y0 : w2.cell? ⟨q, 0, none⟩ = some (.int .i64 c) := kI.cell 0
    have y1 : w2.cell? ⟨q, 1, none⟩ = some (.int .i64 f) := kI.cell 1
    have y2 : w2.cell? ⟨q, 2, none⟩ = some (.bool d) := kI.cell 2
    have y3 : w2.cell? ⟨q, 3, none⟩ = some (.int .i64 r1) := kI.cell 3
    have y4 : w2.cell? ⟨q, 4, none⟩ = some (.int .i64 r2) := kI.cell 4
    have y5 : w2.cell? ⟨q, 5, none⟩ = some (.int .i64 r3) := kI.cell 5
    have y6 : w2.cell? ⟨q, 6, none⟩ = some (.int .u64 m) := kI.cell 6
    have fr : ∀ o, w2.frozen? ⟨w.heap.size, o, none⟩ = false := kR.free
    have hR := kR.lt
    clear kR kI
    go_wp2_with fail
    refine bodyPost_ret (v := .tuple #[.agg #[.int .i64 c, .int .i64 f, .bool d, .int .i64 r1, .int .i64 r2, .int .i64 r3, .int .u64 m], .bool true]) (by simp [results, Try.results12, go_sem, z0, z1, z2, z3, z4, z5, z6]) rfl ⟨rfl, (by repeat (first | with_reducible exact G | with_reducible refine Grew.setCell ?_ (Nat.le_refl _) _))⟩
end Go.Proofs.Ytgekmhcekkmdhaa
