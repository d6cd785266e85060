/-
  The statement about Decode and Encode: what is taken apart is put together, to a word that is taken apart likewise, and is the word, but for a Fence's and an Amo's bits. For every word. Conditions: none.
-/
import Derived.Test.YtagknjcjboiooaaRows
import Derived.Test.YtagknjcjboiooaaDecX
import Derived.Test.YtagknjcjboiooaaDecH
import Derived.Test.YtagknjcjboiooaaLaw
set_option linter.unusedVariables false
set_option linter.unusedSimpArgs false
namespace Go.Proofs.Ytagknjcjboiooaa.decodeBack
open Go.ChangeShapes Go.WideShapes Go.ChangeAt Go.RowKit

theorem imm_back (x : Nat) (hx : x < 4294967296) (d : Bool) (g : Int) (ho : fN x 6 0 = if d then 27 else 19) (hk : kOf x = kImm (fN x 14 12 : Nat) g d) (hg0 : g = 0 → x / 67108864 = 0) (hg32 : g = 32 → x / 67108864 = 16) (hn : noB (kOf x) = false) : Back x := by
  have hn' := hn
  rw [hk] at hn'
  by_cases f1 : fN x 14 12 = 1
  · have e : kImm (fN x 14 12 : Nat) g d = kOn (g == 0) 8 1 d := by rw [f1]; rfl
    rw [e] at hn' hk
    obtain ⟨h1, h2⟩ := on_yes hn'
    exact Back.of (hk.trans h2) rfl (enc_8s x hx d ho 1 0 (.inl ⟨rfl, f1, rfl⟩) (hg0 (by simpa using h1)))
  · by_cases f5 : fN x 14 12 = 5
    · by_cases g2 : g = 32
      · have e : kImm (fN x 14 12 : Nat) g d = ⟨8, 13, d⟩ := by rw [f5, g2]; rfl
        exact Back.of (hk.trans e) rfl (enc_8s x hx d ho 13 32 (.inr (.inr ⟨rfl, f5, rfl⟩)) (hg32 g2))
      · have e : kImm (fN x 14 12 : Nat) g d = kOn (g == 0) 8 5 d := by rw [f5]; unfold kImm; rw [if_neg (by decide), if_pos (by decide), if_neg g2]; rfl
        rw [e] at hn' hk
        obtain ⟨h1, h2⟩ := on_yes hn'
        exact Back.of (hk.trans h2) rfl (enc_8s x hx d ho 5 0 (.inr (.inl ⟨rfl, f5, rfl⟩)) (hg0 (by simpa using h1)))
    · have hE := enc_8i x hx d ho f1 f5
      by_cases f0 : fN x 14 12 = 0
      · have e : kImm (fN x 14 12 : Nat) g d = ⟨8, (fN x 14 12 : Nat), d⟩ := by rw [f0]; rfl
        exact Back.of (hk.trans e) rfl hE
      · have e : kImm (fN x 14 12 : Nat) g d = kOn (!d) 8 (fN x 14 12 : Nat) d := by unfold kImm; rw [if_neg (by omega), if_neg (by omega), if_neg (by omega)]
        rw [e] at hn' hk
        obtain ⟨h1, h2⟩ := on_yes hn'
        exact Back.of (hk.trans h2) rfl hE
theorem up16 (n : Nat) : upF ((n : Int) + 16) = 1 := by unfold upF; rw [if_pos (by omega)]
theorem up8 (n : Nat) (h : n < 8) : upF ((n : Int) + 8) = 32 := by unfold upF; rw [if_neg (by omega), if_pos (by omega)]
theorem low_add (n k : Nat) (h : n < 8) (hk : k % 8 = 0) : lowN ((n : Int) + (k : Int)) 3 = n := by
  rw [← Int.natCast_add, lowN_nat]
  omega
theorem reg_back (x : Nat) (hx : x < 4294967296) (d : Bool) (ho : fN x 6 0 = if d then 59 else 51) (hk : kOf x = kReg (fN x 14 12 : Nat) (fN x 31 25 : Nat) d) (hn : noB (kOf x) = false) : Back x := by
  have hf := f3_lt x
  have hn' := hn
  rw [hk] at hn'
  by_cases g0 : fN x 31 25 = 0
  · have e : kReg (fN x 14 12 : Nat) (fN x 31 25 : Nat) d = kOn (!d || ((fN x 14 12 : Nat) : Int) == 0 || regShift (fN x 14 12 : Nat)) 9 (fN x 14 12 : Nat) d := by unfold kReg; rw [if_pos (by omega)]
    rw [e] at hn' hk
    obtain ⟨_, h2⟩ := on_yes hn'
    exact Back.of (hk.trans h2) rfl (enc_9 x hx d ho _ (low3_lt _ hf) (by rw [g0]; exact up_small _ hf))
  · by_cases g2 : fN x 31 25 = 32
    · have e : kReg (fN x 14 12 : Nat) (fN x 31 25 : Nat) d = kOn (((fN x 14 12 : Nat) : Int) == 0 || ((fN x 14 12 : Nat) : Int) == 5) 9 ((fN x 14 12 : Nat) + 8) d := by unfold kReg; rw [if_neg (by omega), if_pos (by omega)]
      rw [e] at hn' hk
      obtain ⟨_, h2⟩ := on_yes hn'
      exact Back.of (hk.trans h2) rfl (enc_9 x hx d ho _ (low_add _ 8 hf rfl) (by rw [g2]; exact up8 _ hf))
    · by_cases g1 : fN x 31 25 = 1
      · have e : kReg (fN x 14 12 : Nat) (fN x 31 25 : Nat) d = kOn (!d || ((fN x 14 12 : Nat) : Int) + 16 == 16 || decide (20 ≤ ((fN x 14 12 : Nat) : Int) + 16)) 9 ((fN x 14 12 : Nat) + 16) d := by unfold kReg; rw [if_neg (by omega), if_neg (by omega), if_pos (by omega)]
        rw [e] at hn' hk
        obtain ⟨_, h2⟩ := on_yes hn'
        exact Back.of (hk.trans h2) rfl (enc_9 x hx d ho _ (low_add _ 16 hf rfl) (by rw [g1]; exact up16 _))
      · have e : kReg (fN x 14 12 : Nat) (fN x 31 25 : Nat) d = kNo := by unfold kReg; rw [if_neg (by omega), if_neg (by omega), if_neg (by omega)]
        rw [e] at hn'
        exact absurd (show noB kNo = true from rfl) (by rw [hn']; decide)
theorem sys_back (x : Nat) (hx : x < 4294967296) (ho : fN x 6 0 = 115) (hk : kOf x = kSys x (fN x 14 12 : Nat) (fN x 31 25 : Nat)) (hn : noB (kOf x) = false) : Back x := by
  have hn' := hn
  rw [hk] at hn'
  by_cases h0 : x = 115
  · subst h0
    exact Back.of (k := ⟨11, 0, false⟩) (by kernel_rfl) rfl enc_w0
  · by_cases h1 : x = 1048691
    · subst h1
      exact Back.of (k := ⟨11, 1, false⟩) (by kernel_rfl) rfl enc_w1
    · by_cases h2 : x = 270532723
      · subst h2
        exact Back.of (k := ⟨11, 2, false⟩) (by kernel_rfl) rfl enc_w2
      · by_cases h3 : x = 807403635
        · subst h3
          exact Back.of (k := ⟨11, 3, false⟩) (by kernel_rfl) rfl enc_w3
        · by_cases h4 : x = 273678451
          · subst h4
            exact Back.of (k := ⟨11, 4, false⟩) (by kernel_rfl) rfl enc_w4
          · by_cases hf : fN x 14 12 = 0
            · have e : kSys x (fN x 14 12 : Nat) (fN x 31 25 : Nat) = kOn (((fN x 31 25 : Nat) : Int) == 9 && ((fN x 11 7 : Nat) : Int) == 0) 11 5 false := by
                unfold kSys
                rw [if_neg h0, if_neg h1, if_neg h2, if_neg h3, if_neg h4, if_neg (by omega)]
              rw [e] at hn' hk
              obtain ⟨hb, h2'⟩ := on_yes hn'
              simp only [Bool.and_eq_true, beq_iff_eq] at hb
              exact Back.of (hk.trans h2') rfl (enc_11s x hx ho hf (by omega) (by omega))
            · have e : kSys x (fN x 14 12 : Nat) (fN x 31 25 : Nat) = kOn (((fN x 14 12 : Nat) : Int) != 4) 12 (fN x 14 12 : Nat) false := by
                unfold kSys
                rw [if_neg h0, if_neg h1, if_neg h2, if_neg h3, if_neg h4, if_pos (by omega)]
              rw [e] at hn' hk
              obtain ⟨_, h2'⟩ := on_yes hn'
              exact Back.of (hk.trans h2') rfl (enc_C x hx ho)
theorem amo_all (x : Nat) (hx : x < 4294967296) (ho : fN x 6 0 = 47) (hk : kOf x = kAmo x (fN x 14 12 : Nat)) (hn : noB (kOf x) = false) : Back x := by
  have hn' := hn
  rw [hk] at hn'
  by_cases hf : fN x 14 12 = 2 ∨ fN x 14 12 = 3
  · have hf' : ((fN x 14 12 : Nat) : Int) = 2 ∨ ((fN x 14 12 : Nat) : Int) = 3 := by omega
    by_cases ha : amoIs (fN x 31 27) = true
    · exact amo_back x hx ho hf (hk.trans (by unfold kAmo; rw [if_pos hf', if_pos ha]))
    · by_cases h2 : fN x 31 27 = 2
      · have e : kAmo x (fN x 14 12 : Nat) = kOn (((fN x 24 20 : Nat) : Int) == 0) 13 (fN x 31 27 : Nat) (((fN x 14 12 : Nat) : Int) == 2) := by unfold kAmo; rw [if_pos hf', if_neg ha, if_pos h2]
        rw [e] at hn' hk
        exact amo_back x hx ho hf (hk.trans (on_yes hn').2)
      · have e : kAmo x (fN x 14 12 : Nat) = kNo := by unfold kAmo; rw [if_pos hf', if_neg ha, if_neg h2]
        rw [e] at hn'
        exact absurd (show noB kNo = true from rfl) (by rw [hn']; decide)
  · have e : kAmo x (fN x 14 12 : Nat) = kNo := by unfold kAmo; rw [if_neg (by omega)]
    rw [e] at hn'
    exact absurd (show noB kNo = true from rfl) (by rw [hn']; decide)
theorem back_all (x : Nat) (hx : x < 4294967296) (hn : noB (kOf x) = false) : Back x := by
  have hf := f3_lt x
  have hg := f_31_25 x hx
  have hk0 : kOf x = kF x (fN x 14 12 : Nat) (fN x 31 25 : Nat) := rfl
  unfold kF at hk0
  by_cases h55 : fN x 6 0 = 55
  · rw [if_pos h55] at hk0
    exact Back.of hk0 rfl (enc_U x hx 1 55 (.inl ⟨rfl, rfl⟩) h55)
  rw [if_neg h55] at hk0
  by_cases h23 : fN x 6 0 = 23
  · rw [if_pos h23] at hk0
    exact Back.of hk0 rfl (enc_U x hx 2 23 (.inr ⟨rfl, rfl⟩) h23)
  rw [if_neg h23] at hk0
  by_cases h111 : fN x 6 0 = 111
  · rw [if_pos h111] at hk0
    exact Back.of hk0 rfl (enc_J x hx h111)
  rw [if_neg h111] at hk0
  by_cases h103 : fN x 6 0 = 103
  · rw [if_pos h103] at hk0
    rw [hk0] at hn
    obtain ⟨h1, h2⟩ := on_yes hn
    exact Back.of (hk0.trans h2) rfl (enc_Jr x hx h103 (by simpa using h1))
  rw [if_neg h103] at hk0
  by_cases h99 : fN x 6 0 = 99
  · rw [if_pos h99] at hk0
    rw [hk0] at hn
    exact Back.of (hk0.trans (on_yes hn).2) rfl (enc_B x hx h99)
  rw [if_neg h99] at hk0
  by_cases h3 : fN x 6 0 = 3
  · rw [if_pos h3] at hk0
    rw [hk0] at hn
    exact Back.of (hk0.trans (on_yes hn).2) rfl (enc_L x hx h3)
  rw [if_neg h3] at hk0
  by_cases h35 : fN x 6 0 = 35
  · rw [if_pos h35] at hk0
    rw [hk0] at hn
    exact Back.of (hk0.trans (on_yes hn).2) rfl (enc_S x hx h35)
  rw [if_neg h35] at hk0
  by_cases h19 : fN x 6 0 = 19
  · rw [if_pos h19] at hk0
    exact imm_back x hx false _ (by rw [h19]; rfl) hk0 (fun h => by omega) (fun h => by omega) hn
  rw [if_neg h19] at hk0
  by_cases h27 : fN x 6 0 = 27
  · rw [if_pos h27] at hk0
    exact imm_back x hx true _ (by rw [h27]; rfl) hk0 (fun h => by omega) (fun h => by omega) hn
  rw [if_neg h27] at hk0
  by_cases h51 : fN x 6 0 = 51
  · rw [if_pos h51] at hk0
    exact reg_back x hx false (by rw [h51]; rfl) hk0 hn
  rw [if_neg h51] at hk0
  by_cases h59 : fN x 6 0 = 59
  · rw [if_pos h59] at hk0
    exact reg_back x hx true (by rw [h59]; rfl) hk0 hn
  rw [if_neg h59] at hk0
  by_cases h15 : fN x 6 0 = 15
  · rw [if_pos h15] at hk0
    rw [hk0] at hn
    obtain ⟨h1, h2⟩ := on_yes hn
    have h1' : ((fN x 14 12 : Nat) : Int) ≤ 1 := by simpa using h1
    exact fence_back x _ (hk0.trans h2) (by omega)
  rw [if_neg h15] at hk0
  by_cases h115 : fN x 6 0 = 115
  · rw [if_pos h115] at hk0
    exact sys_back x hx h115 hk0 hn
  rw [if_neg h115] at hk0
  by_cases h47 : fN x 6 0 = 47
  · rw [if_pos h47] at hk0
    exact amo_all x hx h47 hk0 hn
  rw [if_neg h47] at hk0
  rw [hk0] at hn
  exact absurd (show noB kNo = true from rfl) (by rw [hn]; decide)

/-- F is a small number. -/
def Fr (k : Kd) : Prop := 0 ≤ k.f ∧ k.f ≤ 31
theorem Fr.at' (c f : Int) (d : Bool) (h : 0 ≤ f ∧ f ≤ 31) : Fr ⟨c, f, d⟩ := h
theorem Fr.on (b : Bool) (c f : Int) (d : Bool) (h : 0 ≤ f ∧ f ≤ 31) : Fr (kOn b c f d) := by
  cases b
  · exact (show (0 : Int) ≤ 0 ∧ (0 : Int) ≤ 31 by decide)
  · exact h
theorem Fr.ite {p : Prop} [Decidable p] {a b : Kd} (ha : Fr a) (hb : Fr b) : Fr (if p then a else b) := by
  split
  · exact ha
  · exact hb
theorem fr_of (x : Nat) : Fr (kOf x) := by
  have hf := f3_lt x
  have hq : fN x 31 27 < 32 := fN_lt x 31 27 32 (by decide)
  have z : Fr kNo := ⟨by decide, by decide⟩
  have im (g : Int) (d : Bool) : Fr (kImm (fN x 14 12 : Nat) g d) := by
    unfold kImm
    exact Fr.ite (Fr.on _ _ _ _ (by omega)) (Fr.ite (Fr.ite (Fr.at' _ _ _ (by omega)) (Fr.on _ _ _ _ (by omega))) (Fr.ite (Fr.at' _ _ _ (by omega)) (Fr.on _ _ _ _ (by omega))))
  have re (g : Int) (d : Bool) : Fr (kReg (fN x 14 12 : Nat) g d) := by
    unfold kReg
    exact Fr.ite (Fr.on _ _ _ _ (by omega)) (Fr.ite (Fr.on _ _ _ _ (by omega)) (Fr.ite (Fr.on _ _ _ _ (by omega)) z))
  have sy (g : Int) : Fr (kSys x (fN x 14 12 : Nat) g) := by
    unfold kSys
    exact Fr.ite (Fr.at' _ _ _ (by omega)) (Fr.ite (Fr.at' _ _ _ (by omega)) (Fr.ite (Fr.at' _ _ _ (by omega)) (Fr.ite (Fr.at' _ _ _ (by omega)) (Fr.ite (Fr.at' _ _ _ (by omega)) (Fr.ite (Fr.on _ _ _ _ (by omega)) (Fr.on _ _ _ _ (by omega)))))))
  have am : Fr (kAmo x (fN x 14 12 : Nat)) := by
    unfold kAmo
    exact Fr.ite (Fr.ite (Fr.at' _ _ _ (by omega)) (Fr.ite (Fr.on _ _ _ _ (by omega)) z)) z
  unfold kOf kF
  exact Fr.ite (Fr.at' _ _ _ (by omega)) (Fr.ite (Fr.at' _ _ _ (by omega)) (Fr.ite (Fr.at' _ _ _ (by omega)) (Fr.ite (Fr.on _ _ _ _ (by omega)) (Fr.ite (Fr.on _ _ _ _ (by omega))
    (Fr.ite (Fr.on _ _ _ _ (by omega)) (Fr.ite (Fr.on _ _ _ _ (by omega)) (Fr.ite (im _ _) (Fr.ite (im _ _) (Fr.ite (re _ _) (Fr.ite (re _ _) (Fr.ite (Fr.on _ _ _ _ (by omega)) (Fr.ite (sy _) (Fr.ite am z)))))))))))))
theorem reg_nat (b : Bool) (x : Nat) (hi lo : Int) (h : fN x hi lo < 32) : -9223372036854775808 ≤ ((regN b x hi lo : Nat) : Int) ∧ ((regN b x hi lo : Nat) : Int) ≤ 9223372036854775807 := by
  have : regN b x hi lo < 32 := by
    unfold regN
    cases b
    · simp
    · simpa using h
  omega
theorem eqI_self (i : Ins) : eqI i i = true := by
  obtain ⟨c, f, d, r1, r2, r3, m⟩ := i
  simp [eqI]

set_option maxHeartbeats 1000000 in
theorem back_no (x : Nat) (w : World)
    (hD : ∀ w : World, Calls Try.prog 11 #[.int .u32 (x : Nat)] w fun e w' => e = .returned (.tuple #[.agg #[.int .i64 0, .int .i64 0, .bool false, .int .i64 0, .int .i64 0, .int .i64 0, .int .u64 0], .bool false]) ∧ Grew w w') :
    Calls Try.prog 8 #[.int .u32 (x : Nat)] w fun e w' => e = .returned (.bool true) ∧ Grew w w' := by
  go_enter Try.func8, Try.ntmps8
  go_wp2_with fail
  refine (hD _).mono ?_
  rintro e w1 ⟨rfl, g1⟩
  have G := g1.alloc (.cells #[.int .i64 0, .int .i64 0, .bool false, .int .i64 0, .int .i64 0, .int .i64 0, .int .u64 0] 30)
  go_wp2_with fail
  refine (heads_c G).mono ?_
  rintro e w2 ⟨rfl, g2⟩
  go_wp2_with fail
  go_ret
  exact ⟨rfl, g2⟩
set_option maxHeartbeats 1000000 in
theorem back_same (x y : Nat) (c f r1 r2 r3 : Int) (d : Bool) (M : Nat) (w : World) (hy : y = x)
    (hD : ∀ w : World, Calls Try.prog 11 #[.int .u32 (x : Nat)] w fun e w' => e = .returned (.tuple #[.agg #[.int .i64 c, .int .i64 f, .bool d, .int .i64 r1, .int .i64 r2, .int .i64 r3, .int .u64 (M : Nat)], .bool true]) ∧ Grew w w')
    (hE : ∀ w : World, Calls Try.prog 13 #[.agg #[.int .i64 c, .int .i64 f, .bool d, .int .i64 r1, .int .i64 r2, .int .i64 r3, .int .u64 (M : Nat)]] w fun e w' => e = .returned (.tuple #[.int .u32 (y : Nat), .bool true]) ∧ Grew w w')
    (hY : ∀ w : World, Calls Try.prog 11 #[.int .u32 (y : Nat)] w fun e w' => e = .returned (.tuple #[.agg #[.int .i64 c, .int .i64 f, .bool d, .int .i64 r1, .int .i64 r2, .int .i64 r3, .int .u64 (M : Nat)], .bool true]) ∧ Grew w w') :
    Calls Try.prog 8 #[.int .u32 (x : Nat)] w fun e w' => e = .returned (.bool true) ∧ Grew w w' := by
  subst hy
  have heq := fun w => ins_neq ⟨c, f, d, r1, r2, r3, (M : Nat)⟩ ⟨c, f, d, r1, r2, r3, (M : Nat)⟩ true (eqI_self _) w
  go_enter Try.func8, Try.ntmps8
  go_wp2_with fail
  refine (hD _).mono ?_
  rintro e w1 ⟨rfl, g1⟩
  have k1 := Blk.new w1 #[.int .i64 c, .int .i64 f, .bool d, .int .i64 r1, .int .i64 r2, .int .i64 r3, .int .u64 (M : Nat)] 30 w1.heap.size rfl
  have G1 := g1.alloc (.cells #[.int .i64 c, .int .i64 f, .bool d, .int .i64 r1, .int .i64 r2, .int .i64 r3, .int .u64 (M : Nat)] 30)
  go_upto_region 2 with fail
  generalize w1.alloc (.cells #[.int .i64 c, .int .i64 f, .bool d, .int .i64 r1, .int .i64 r2, .int .i64 r3, .int .u64 (M : Nat)] 30) = wa at *
  generalize w1.heap.size = p1 at *
  have a0 : wa.cell? ⟨p1, 0, none⟩ = some (.int .i64 c) := k1.cell 0
  have a1 : wa.cell? ⟨p1, 1, none⟩ = some (.int .i64 f) := k1.cell 1
  have a2 : wa.cell? ⟨p1, 2, none⟩ = some (.bool d) := k1.cell 2
  have a3 : wa.cell? ⟨p1, 3, none⟩ = some (.int .i64 r1) := k1.cell 3
  have a4 : wa.cell? ⟨p1, 4, none⟩ = some (.int .i64 r2) := k1.cell 4
  have a5 : wa.cell? ⟨p1, 5, none⟩ = some (.int .i64 r3) := k1.cell 5
  have a6 : wa.cell? ⟨p1, 6, none⟩ = some (.int .u64 (M : Nat)) := k1.cell 6
  go_wp2_with fail
  refine (hE _).mono ?_
  rintro e w2 ⟨rfl, g2⟩
  have k2 := k1.grew g2
  have G2 := G1.trans g2
  clear a0 a1 a2 a3 a4 a5 a6 k1 G1
  go_wp2_with fail
  refine (hY _).mono ?_
  rintro e w3 ⟨rfl, g3⟩
  have k3 := (k2.grew g3).alloc (.cells #[.int .i64 c, .int .i64 f, .bool d, .int .i64 r1, .int .i64 r2, .int .i64 r3, .int .u64 (M : Nat)] 30)
  have k7 := Blk.new w3 #[.int .i64 c, .int .i64 f, .bool d, .int .i64 r1, .int .i64 r2, .int .i64 r3, .int .u64 (M : Nat)] 30 w3.heap.size rfl
  have G3 := (G2.trans g3).alloc (.cells #[.int .i64 c, .int .i64 f, .bool d, .int .i64 r1, .int .i64 r2, .int .i64 r3, .int .u64 (M : Nat)] 30)
  clear k2 G2
  go_upto_region 6 with fail
  generalize w3.alloc (.cells #[.int .i64 c, .int .i64 f, .bool d, .int .i64 r1, .int .i64 r2, .int .i64 r3, .int .u64 (M : Nat)] 30) = wb at *
  generalize w3.heap.size = p7 at *
  have a0 : wb.cell? ⟨p1, 0, none⟩ = some (.int .i64 c) := k3.cell 0
  have a1 : wb.cell? ⟨p1, 1, none⟩ = some (.int .i64 f) := k3.cell 1
  have a2 : wb.cell? ⟨p1, 2, none⟩ = some (.bool d) := k3.cell 2
  have a3 : wb.cell? ⟨p1, 3, none⟩ = some (.int .i64 r1) := k3.cell 3
  have a4 : wb.cell? ⟨p1, 4, none⟩ = some (.int .i64 r2) := k3.cell 4
  have a5 : wb.cell? ⟨p1, 5, none⟩ = some (.int .i64 r3) := k3.cell 5
  have a6 : wb.cell? ⟨p1, 6, none⟩ = some (.int .u64 (M : Nat)) := k3.cell 6
  have b0 : wb.cell? ⟨p7, 0, none⟩ = some (.int .i64 c) := k7.cell 0
  have b1 : wb.cell? ⟨p7, 1, none⟩ = some (.int .i64 f) := k7.cell 1
  have b2 : wb.cell? ⟨p7, 2, none⟩ = some (.bool d) := k7.cell 2
  have b3 : wb.cell? ⟨p7, 3, none⟩ = some (.int .i64 r1) := k7.cell 3
  have b4 : wb.cell? ⟨p7, 4, none⟩ = some (.int .i64 r2) := k7.cell 4
  have b5 : wb.cell? ⟨p7, 5, none⟩ = some (.int .i64 r3) := k7.cell 5
  have b6 : wb.cell? ⟨p7, 6, none⟩ = some (.int .u64 (M : Nat)) := k7.cell 6
  clear k3 k7
  go_wp2_with fail
  refine (heads_c G3).mono ?_
  rintro e w4 ⟨rfl, g4⟩
  go_wp2_with fail
  go_ret
  exact ⟨rfl, g4⟩
set_option maxHeartbeats 1000000 in
theorem back_ten (x y : Nat) (c f r1 r2 r3 : Int) (d : Bool) (M : Nat) (w : World) (hy : ¬ ((y : Nat) : Int) = ((x : Nat) : Int)) (hc : c = 10)
    (hD : ∀ w : World, Calls Try.prog 11 #[.int .u32 (x : Nat)] w fun e w' => e = .returned (.tuple #[.agg #[.int .i64 c, .int .i64 f, .bool d, .int .i64 r1, .int .i64 r2, .int .i64 r3, .int .u64 (M : Nat)], .bool true]) ∧ Grew w w')
    (hE : ∀ w : World, Calls Try.prog 13 #[.agg #[.int .i64 c, .int .i64 f, .bool d, .int .i64 r1, .int .i64 r2, .int .i64 r3, .int .u64 (M : Nat)]] w fun e w' => e = .returned (.tuple #[.int .u32 (y : Nat), .bool true]) ∧ Grew w w')
    (hY : ∀ w : World, Calls Try.prog 11 #[.int .u32 (y : Nat)] w fun e w' => e = .returned (.tuple #[.agg #[.int .i64 c, .int .i64 f, .bool d, .int .i64 r1, .int .i64 r2, .int .i64 r3, .int .u64 (M : Nat)], .bool true]) ∧ Grew w w') :
    Calls Try.prog 8 #[.int .u32 (x : Nat)] w fun e w' => e = .returned (.bool true) ∧ Grew w w' := by
  subst hc
  have heq := fun w => ins_neq ⟨10, f, d, r1, r2, r3, (M : Nat)⟩ ⟨10, f, d, r1, r2, r3, (M : Nat)⟩ true (eqI_self _) w
  go_enter Try.func8, Try.ntmps8
  go_wp2_with fail
  refine (hD _).mono ?_
  rintro e w1 ⟨rfl, g1⟩
  have k1 := Blk.new w1 #[.int .i64 10, .int .i64 f, .bool d, .int .i64 r1, .int .i64 r2, .int .i64 r3, .int .u64 (M : Nat)] 30 w1.heap.size rfl
  have G1 := g1.alloc (.cells #[.int .i64 10, .int .i64 f, .bool d, .int .i64 r1, .int .i64 r2, .int .i64 r3, .int .u64 (M : Nat)] 30)
  go_upto_region 2 with fail
  generalize w1.alloc (.cells #[.int .i64 10, .int .i64 f, .bool d, .int .i64 r1, .int .i64 r2, .int .i64 r3, .int .u64 (M : Nat)] 30) = wa at *
  generalize w1.heap.size = p1 at *
  have a0 : wa.cell? ⟨p1, 0, none⟩ = some (.int .i64 10) := k1.cell 0
  have a1 : wa.cell? ⟨p1, 1, none⟩ = some (.int .i64 f) := k1.cell 1
  have a2 : wa.cell? ⟨p1, 2, none⟩ = some (.bool d) := k1.cell 2
  have a3 : wa.cell? ⟨p1, 3, none⟩ = some (.int .i64 r1) := k1.cell 3
  have a4 : wa.cell? ⟨p1, 4, none⟩ = some (.int .i64 r2) := k1.cell 4
  have a5 : wa.cell? ⟨p1, 5, none⟩ = some (.int .i64 r3) := k1.cell 5
  have a6 : wa.cell? ⟨p1, 6, none⟩ = some (.int .u64 (M : Nat)) := k1.cell 6
  go_wp2_with fail
  refine (hE _).mono ?_
  rintro e w2 ⟨rfl, g2⟩
  have k2 := k1.grew g2
  have G2 := G1.trans g2
  clear a0 a1 a2 a3 a4 a5 a6 k1 G1
  go_wp2_with fail
  refine (hY _).mono ?_
  rintro e w3 ⟨rfl, g3⟩
  have k3 := (k2.grew g3).alloc (.cells #[.int .i64 10, .int .i64 f, .bool d, .int .i64 r1, .int .i64 r2, .int .i64 r3, .int .u64 (M : Nat)] 30)
  have k7 := Blk.new w3 #[.int .i64 10, .int .i64 f, .bool d, .int .i64 r1, .int .i64 r2, .int .i64 r3, .int .u64 (M : Nat)] 30 w3.heap.size rfl
  have G3 := (G2.trans g3).alloc (.cells #[.int .i64 10, .int .i64 f, .bool d, .int .i64 r1, .int .i64 r2, .int .i64 r3, .int .u64 (M : Nat)] 30)
  clear k2 G2
  go_upto_region 6 with fail
  generalize w3.alloc (.cells #[.int .i64 10, .int .i64 f, .bool d, .int .i64 r1, .int .i64 r2, .int .i64 r3, .int .u64 (M : Nat)] 30) = wb at *
  generalize w3.heap.size = p7 at *
  have a0 : wb.cell? ⟨p1, 0, none⟩ = some (.int .i64 10) := k3.cell 0
  have a1 : wb.cell? ⟨p1, 1, none⟩ = some (.int .i64 f) := k3.cell 1
  have a2 : wb.cell? ⟨p1, 2, none⟩ = some (.bool d) := k3.cell 2
  have a3 : wb.cell? ⟨p1, 3, none⟩ = some (.int .i64 r1) := k3.cell 3
  have a4 : wb.cell? ⟨p1, 4, none⟩ = some (.int .i64 r2) := k3.cell 4
  have a5 : wb.cell? ⟨p1, 5, none⟩ = some (.int .i64 r3) := k3.cell 5
  have a6 : wb.cell? ⟨p1, 6, none⟩ = some (.int .u64 (M : Nat)) := k3.cell 6
  have b0 : wb.cell? ⟨p7, 0, none⟩ = some (.int .i64 10) := k7.cell 0
  have b1 : wb.cell? ⟨p7, 1, none⟩ = some (.int .i64 f) := k7.cell 1
  have b2 : wb.cell? ⟨p7, 2, none⟩ = some (.bool d) := k7.cell 2
  have b3 : wb.cell? ⟨p7, 3, none⟩ = some (.int .i64 r1) := k7.cell 3
  have b4 : wb.cell? ⟨p7, 4, none⟩ = some (.int .i64 r2) := k7.cell 4
  have b5 : wb.cell? ⟨p7, 5, none⟩ = some (.int .i64 r3) := k7.cell 5
  have b6 : wb.cell? ⟨p7, 6, none⟩ = some (.int .u64 (M : Nat)) := k7.cell 6
  clear k3 k7
  go_wp2_with fail
  refine (heads_c G3).mono ?_
  rintro e w4 ⟨rfl, g4⟩
  go_wp2_with fail
  go_ret
  exact ⟨rfl, g4⟩
set_option maxHeartbeats 1000000 in
theorem back_thirteen (x y : Nat) (c f r1 r2 r3 : Int) (d : Bool) (M : Nat) (w : World) (hy : ¬ ((y : Nat) : Int) = ((x : Nat) : Int)) (hc : c = 13)
    (hD : ∀ w : World, Calls Try.prog 11 #[.int .u32 (x : Nat)] w fun e w' => e = .returned (.tuple #[.agg #[.int .i64 c, .int .i64 f, .bool d, .int .i64 r1, .int .i64 r2, .int .i64 r3, .int .u64 (M : Nat)], .bool true]) ∧ Grew w w')
    (hE : ∀ w : World, Calls Try.prog 13 #[.agg #[.int .i64 c, .int .i64 f, .bool d, .int .i64 r1, .int .i64 r2, .int .i64 r3, .int .u64 (M : Nat)]] w fun e w' => e = .returned (.tuple #[.int .u32 (y : Nat), .bool true]) ∧ Grew w w')
    (hY : ∀ w : World, Calls Try.prog 11 #[.int .u32 (y : Nat)] w fun e w' => e = .returned (.tuple #[.agg #[.int .i64 c, .int .i64 f, .bool d, .int .i64 r1, .int .i64 r2, .int .i64 r3, .int .u64 (M : Nat)], .bool true]) ∧ Grew w w') :
    Calls Try.prog 8 #[.int .u32 (x : Nat)] w fun e w' => e = .returned (.bool true) ∧ Grew w w' := by
  subst hc
  have heq := fun w => ins_neq ⟨13, f, d, r1, r2, r3, (M : Nat)⟩ ⟨13, f, d, r1, r2, r3, (M : Nat)⟩ true (eqI_self _) w
  go_enter Try.func8, Try.ntmps8
  go_wp2_with fail
  refine (hD _).mono ?_
  rintro e w1 ⟨rfl, g1⟩
  have k1 := Blk.new w1 #[.int .i64 13, .int .i64 f, .bool d, .int .i64 r1, .int .i64 r2, .int .i64 r3, .int .u64 (M : Nat)] 30 w1.heap.size rfl
  have G1 := g1.alloc (.cells #[.int .i64 13, .int .i64 f, .bool d, .int .i64 r1, .int .i64 r2, .int .i64 r3, .int .u64 (M : Nat)] 30)
  go_upto_region 2 with fail
  generalize w1.alloc (.cells #[.int .i64 13, .int .i64 f, .bool d, .int .i64 r1, .int .i64 r2, .int .i64 r3, .int .u64 (M : Nat)] 30) = wa at *
  generalize w1.heap.size = p1 at *
  have a0 : wa.cell? ⟨p1, 0, none⟩ = some (.int .i64 13) := k1.cell 0
  have a1 : wa.cell? ⟨p1, 1, none⟩ = some (.int .i64 f) := k1.cell 1
  have a2 : wa.cell? ⟨p1, 2, none⟩ = some (.bool d) := k1.cell 2
  have a3 : wa.cell? ⟨p1, 3, none⟩ = some (.int .i64 r1) := k1.cell 3
  have a4 : wa.cell? ⟨p1, 4, none⟩ = some (.int .i64 r2) := k1.cell 4
  have a5 : wa.cell? ⟨p1, 5, none⟩ = some (.int .i64 r3) := k1.cell 5
  have a6 : wa.cell? ⟨p1, 6, none⟩ = some (.int .u64 (M : Nat)) := k1.cell 6
  go_wp2_with fail
  refine (hE _).mono ?_
  rintro e w2 ⟨rfl, g2⟩
  have k2 := k1.grew g2
  have G2 := G1.trans g2
  clear a0 a1 a2 a3 a4 a5 a6 k1 G1
  go_wp2_with fail
  refine (hY _).mono ?_
  rintro e w3 ⟨rfl, g3⟩
  have k3 := (k2.grew g3).alloc (.cells #[.int .i64 13, .int .i64 f, .bool d, .int .i64 r1, .int .i64 r2, .int .i64 r3, .int .u64 (M : Nat)] 30)
  have k7 := Blk.new w3 #[.int .i64 13, .int .i64 f, .bool d, .int .i64 r1, .int .i64 r2, .int .i64 r3, .int .u64 (M : Nat)] 30 w3.heap.size rfl
  have G3 := (G2.trans g3).alloc (.cells #[.int .i64 13, .int .i64 f, .bool d, .int .i64 r1, .int .i64 r2, .int .i64 r3, .int .u64 (M : Nat)] 30)
  clear k2 G2
  go_upto_region 6 with fail
  generalize w3.alloc (.cells #[.int .i64 13, .int .i64 f, .bool d, .int .i64 r1, .int .i64 r2, .int .i64 r3, .int .u64 (M : Nat)] 30) = wb at *
  generalize w3.heap.size = p7 at *
  have a0 : wb.cell? ⟨p1, 0, none⟩ = some (.int .i64 13) := k3.cell 0
  have a1 : wb.cell? ⟨p1, 1, none⟩ = some (.int .i64 f) := k3.cell 1
  have a2 : wb.cell? ⟨p1, 2, none⟩ = some (.bool d) := k3.cell 2
  have a3 : wb.cell? ⟨p1, 3, none⟩ = some (.int .i64 r1) := k3.cell 3
  have a4 : wb.cell? ⟨p1, 4, none⟩ = some (.int .i64 r2) := k3.cell 4
  have a5 : wb.cell? ⟨p1, 5, none⟩ = some (.int .i64 r3) := k3.cell 5
  have a6 : wb.cell? ⟨p1, 6, none⟩ = some (.int .u64 (M : Nat)) := k3.cell 6
  have b0 : wb.cell? ⟨p7, 0, none⟩ = some (.int .i64 13) := k7.cell 0
  have b1 : wb.cell? ⟨p7, 1, none⟩ = some (.int .i64 f) := k7.cell 1
  have b2 : wb.cell? ⟨p7, 2, none⟩ = some (.bool d) := k7.cell 2
  have b3 : wb.cell? ⟨p7, 3, none⟩ = some (.int .i64 r1) := k7.cell 3
  have b4 : wb.cell? ⟨p7, 4, none⟩ = some (.int .i64 r2) := k7.cell 4
  have b5 : wb.cell? ⟨p7, 5, none⟩ = some (.int .i64 r3) := k7.cell 5
  have b6 : wb.cell? ⟨p7, 6, none⟩ = some (.int .u64 (M : Nat)) := k7.cell 6
  clear k3 k7
  go_wp2_with fail
  refine (heads_c G3).mono ?_
  rintro e w4 ⟨rfl, g4⟩
  go_wp2_with fail
  go_ret
  exact ⟨rfl, g4⟩
theorem walkN (x : Nat) (hx : x < 4294967296) (w : World) : Calls Try.prog 8 #[.int .u32 (x : Nat)] w fun e w' => e = .returned (.bool true) ∧ Grew w w' := by
  have hD := @decode_c x hx
  by_cases hn : noB (kOf x) = true
  · rw [if_pos hn, hn] at hD
    exact back_no x w hD
  · have hn' : noB (kOf x) = false := by simpa using hn
    rw [if_neg hn, hn'] at hD
    obtain ⟨M, y, hM, hM2, hy, hny, hdy, hc⟩ := back_all x hx hn'
    have hf : -9223372036854775808 ≤ (decI x).f ∧ (decI x).f ≤ 9223372036854775807 := by
      have h1 : 0 ≤ (decI x).f := (fr_of x).1
      have h2 : (decI x).f ≤ 31 := (fr_of x).2
      exact ⟨by omega, by omega⟩
    have q1 : -9223372036854775808 ≤ (decI x).r1 ∧ (decI x).r1 ≤ 9223372036854775807 := reg_nat _ x 11 7 (rd_lt x)
    have q2 : -9223372036854775808 ≤ (decI x).r2 ∧ (decI x).r2 ≤ 9223372036854775807 := reg_nat _ x 19 15 (rs1_lt x)
    have q3 : -9223372036854775808 ≤ (decI x).r3 ∧ (decI x).r3 ≤ 9223372036854775807 := reg_nat _ x 24 20 (rs2_lt x)
    have hyl : y < 4294967296 := by rw [← hy]; exact encN_lt _ _ _ _ _ _ _
    have hY := @decode_c y hyl
    rw [if_neg (by rw [hny]; decide), hny, hdy] at hY
    have hE := fun w => encode_c (decI x).c (decI x).f (decI x).r1 (decI x).r2 (decI x).r3 (decI x).d M hM2 hf.1 hf.2 q1 q2 q3 w
    have hb : encB (decI x).c (decI x).f (decI x).d (decI x).r1 (decI x).r2 (decI x).r3 M = true := by
      unfold encB
      rw [hy, hny, hdy, ← hM]
      exact eqI_self (decI x)
    simp only [hb, if_true, hy] at hE
    generalize decI x = i at *
    obtain ⟨c, f, d, r1, r2, r3, m⟩ := i
    dsimp only at hD hE hY hM hc
    subst hM
    by_cases e : y = x
    · exact back_same x y c f r1 r2 r3 d M w e hD hE hY
    · rcases hc with h | h | h
      · exact absurd h e
      · exact back_ten x y c f r1 r2 r3 d M w (by omega) h hD hE hY
      · exact back_thirteen x y c f r1 r2 r3 d M w (by omega) h hD hE hY
theorem walk (z : Int) (hz : 0 ≤ z ∧ z < 4294967296) (w : World) :
    Calls Try.prog 8 #[.int .u32 z] w fun e w' => e = .returned (.bool true) ∧ Below w.heap.size w w' := by
  obtain ⟨x, rfl⟩ := Int.eq_ofNat_of_zero_le hz.1
  exact walkN x (by omega) w

set_option maxRecDepth 100000 in
theorem lifted (os : Os) (started : os.Started) (H : Type) (enc : TypeId × Value → H) :
    ReturnsInHanded {} Try.checked os 8 .any (Rows.decodeBackSpec.pre6 enc Try.prog Try.f8 Rows.decodeBackRow.domain false) (Rows.decodeBackSpec.post enc Try.prog Try.f8 false true false false) := by
  refine returnsInHanded_of_change (C := Try.checked) own started (by kernel_rfl) Try.func8
    (ChangeSpec.witness6 (enc := enc) (C := Try.checked) false ⟨#[], #[.int .u32 0], []⟩ 8 (by kernel_rfl) (by kernel_rfl) (by kernel_rfl) (by kernel_rfl)) ?_
  intro W base args ds gs before hval0 hW _ _
  have hval : ∀ (j : Nat) t v, Try.f8.params[j]? = some t → args[j]? = some v → Value.okWide Try.prog W .any base t v := hval0
  have hW' := hW
  obtain ⟨p, q, hA0, hV, rfl, hfz, hnd⟩ := hW
  have hA : DataW.TrodAll enc Try.prog W 0 (fun _ => true) true Try.f8.params.toList args.toList ds p := hA0
  rw [Try.params8] at hA hval
  obtain ⟨v0, vs0, d0, ds0, p0, q0, hargs, rfl, rfl, h0, r'0⟩ := trodAll_cons hA
  obtain ⟨rfl, rfl, rfl⟩ := trodAll_nil r'0
  obtain rfl : args = #[v0] := by cases args; simp_all
  obtain ⟨a0, rfl, rfl, rfl, w0⟩ := open_int Try.underlying23 (hval 0 23 v0 rfl rfl) h0
  refine (walk a0 (wf_u32 w0) W).mono fun e W' ⟨he, hb⟩ => ?_
  subst he
  exact ⟨_, rfl, law_post hW' rfl rfl laid (by kernel_rfl) rfl Try.underlying4 hb⟩

theorem over : Rows.decodeBackRow.holds Try.pinned (OpenSpec.ofChange Rows.decodeBackSpec) :=
  OpenClaim.holds_of_wide 8 Try.f8 rfl rfl rfl rfl rfl rfl rfl ⟨rfl, rfl, rfl, rfl, rfl⟩ rfl rfl rfl rfl rfl (by kernel_rfl) Try.func8 (by kernel_rfl)
    (of_decide_eq_true (by kernel_rfl)) (by unfold Func.isWrapper; first | (rw [if_pos (by decide +kernel)]; kernel_rfl) | (rw [if_neg (by decide +kernel)]; exact ⟨rfl, rfl⟩))
    (fun os started H enc _ => lifted os started H enc)

theorem proved : Rows.DecodeBackSaid := over
#print axioms proved
end Go.Proofs.Ytagknjcjboiooaa.decodeBack
