/-
  Contract of package decode: Decode.
-/
import Derived.Test.YtgekmhcekkmdhaaDecD
import Derived.Test.YtgekmhcekkmdhaaDecL
import Derived.Deep.DeepCutAuto
set_option linter.unusedVariables false
set_option linter.unusedSimpArgs false
namespace Go.Proofs.Ytgekmhcekkmdhaa
open Go.RowKit

/-- An instruction, its fields plain. -/
structure Ins where
  c : Int
  f : Int
  d : Bool
  r1 : Int
  r2 : Int
  r3 : Int
  m : Int
abbrev iV (i : Ins) : Value := .agg #[.int .i64 i.c, .int .i64 i.f, .bool i.d, .int .i64 i.r1, .int .i64 i.r2, .int .i64 i.r3, .int .u64 i.m]
def eqI (i j : Ins) : Bool := i.c == j.c && (i.f == j.f && (i.d == j.d && (i.r1 == j.r1 && (i.r2 == j.r2 && (i.r3 == j.r3 && i.m == j.m)))))
theorem ins_eql (i j : Ins) (w : World) : (binOp .eql 26 (iV i) (iV j)).run Try.prog w = .ok (.bool (eqI i j)) w := by
  obtain ⟨c, f, d, r1, r2, r3, m⟩ := i
  obtain ⟨c', f', d', r1', r2', r3', m'⟩ := j
  have hu := Try.underlying26
  have hp : Try.prog.stoodInHeld 26 = false := by kernel_rfl
  rw [run_eql_struct, run_equalIn_agg w 9999 _ _ _ (by simp [Program.fieldsOf, hu]) hp]
  simp only [Program.fieldsOf, hu]
  simp [Op.eqFields, go_sem]
  by_cases h0 : c = c'
  · skip
    by_cases h1 : f = f'
    · skip
      by_cases h2 : d = d'
      · skip
        by_cases h3 : r1 = r1'
        · skip
          by_cases h4 : r2 = r2'
          · skip
            by_cases h5 : r3 = r3'
            · skip
              by_cases h6 : m = m'
              · skip
                simp [eqI, h0, h1, h2, h3, h4, h5, h6]
              · simp [eqI, h0, h1, h2, h3, h4, h5, h6]
            · simp [eqI, h0, h1, h2, h3, h4, h5]
          · simp [eqI, h0, h1, h2, h3, h4]
        · simp [eqI, h0, h1, h2, h3]
      · simp [eqI, h0, h1, h2]
    · simp [eqI, h0, h1]
  · simp [eqI, h0]

/-- What Decode answers. -/
def decI (x : Nat) : Ins := ⟨(kOf x).c, (kOf x).f, (kOf x).d, (regN (shp (kOf x).c (kOf x).f).rd x 11 7 : Nat), (regN (shp (kOf x).c (kOf x).f).rs1 x 19 15 : Nat), (regN (shp (kOf x).c (kOf x).f).rs2 x 24 20 : Nat), immN (shp (kOf x).c (kOf x).f) x⟩
def noI : Ins := ⟨0, 0, false, 0, 0, 0, 0⟩
def noB (k : Kd) : Bool := eqI ⟨k.c, k.f, k.d, 0, 0, 0, 0⟩ noI
theorem kd_eql (k : Kd) (b : Bool) (h : noB k = b) : ∀ w : World, (binOp .eql 26 (kV k) (.agg #[.int .i64 0, .int .i64 0, .bool false, .int .i64 0, .int .i64 0, .int .i64 0, .int .u64 0])).run Try.prog w = .ok (.bool b) w := fun w => by
  obtain ⟨c, f, d⟩ := k
  subst h
  exact ins_eql ⟨c, f, d, 0, 0, 0, 0⟩ noI w

set_option maxHeartbeats 1000000 in
theorem dec_no (x : Nat) (hx : x < 4294967296) (k : Kd) (hkx : kOf x = k) (hk : noB k = true) (w : World) :
    Calls Try.prog 11 #[.int .u32 (x : Nat)] w fun e w' => e = .returned (.tuple #[iV noI, .bool false]) ∧ Grew w w' := by
  have heq := kd_eql k true hk
  have hkind := @kindOf_c x hx
  rw [hkx] at hkind
  have hk0 : k = ⟨0, 0, false⟩ := by
    obtain ⟨c, f, d⟩ := k
    simpa [noB, eqI, noI] using hk
  subst hk0
  have HK := Lib.hid hkind
  clear hk hkx hkind
  go_enter Try.func11, Try.ntmps11
  go_wp2_with fail
  refine (partsOf_c x hx _).mono ?_
  rintro e w1 ⟨rfl, rfl⟩
  go_wp2_with fail
  refine (HK.out _ _ (by simp) (by simp)).mono ?_
  rintro e w2 ⟨rfl, g2⟩
  have kR := ((Blk.new w #[.int .i64 0, .int .i64 0, .bool false, .int .i64 0, .int .i64 0, .int .i64 0, .int .u64 0] 26 w.heap.size rfl).alloc (.cells #[.int .u32 (x : Nat)] 22)).grew g2
  have kP := (Blk.new (w.alloc (.cells #[.int .i64 0, .int .i64 0, .bool false, .int .i64 0, .int .i64 0, .int .i64 0, .int .u64 0] 26)) #[.int .u32 (x : Nat)] 22 (w.heap.size + 1) (by simp)).grew g2
  have k5 := Blk.new w2 #[.int .i64 0, .int .i64 0, .bool false, .int .i64 0, .int .i64 0, .int .i64 0, .int .u64 0] 26 w2.heap.size rfl
  have kR3 := kR.alloc (.cells #[.int .i64 0, .int .i64 0, .bool false, .int .i64 0, .int .i64 0, .int .i64 0, .int .u64 0] 26)
  have kP3 := kP.alloc (.cells #[.int .i64 0, .int .i64 0, .bool false, .int .i64 0, .int .i64 0, .int .i64 0, .int .u64 0] 26)
  have G3 := ((((Grew.refl w).alloc _).alloc _).trans g2).alloc (.cells #[.int .i64 0, .int .i64 0, .bool false, .int .i64 0, .int .i64 0, .int .i64 0, .int .u64 0] 26)
  clear kR kP g2
  go_upto_region 3 with fail
  generalize w2.alloc (.cells #[.int .i64 0, .int .i64 0, .bool false, .int .i64 0, .int .i64 0, .int .i64 0, .int .u64 0] 26) = w3 at *
  generalize w2.heap.size = q at *
  have c0 : w3.cell? ⟨w.heap.size, 0, none⟩ = some (.int .i64 0) := kR3.cell 0
  have c1 : w3.cell? ⟨w.heap.size, 1, none⟩ = some (.int .i64 0) := kR3.cell 1
  have c2 : w3.cell? ⟨w.heap.size, 2, none⟩ = some (.bool false) := kR3.cell 2
  have c3 : w3.cell? ⟨w.heap.size, 3, none⟩ = some (.int .i64 0) := kR3.cell 3
  have c4 : w3.cell? ⟨w.heap.size, 4, none⟩ = some (.int .i64 0) := kR3.cell 4
  have c5 : w3.cell? ⟨w.heap.size, 5, none⟩ = some (.int .i64 0) := kR3.cell 5
  have c6 : w3.cell? ⟨w.heap.size, 6, none⟩ = some (.int .u64 0) := kR3.cell 6
  have t0 : w3.cell? ⟨q, 0, none⟩ = some (.int .i64 0) := k5.cell 0
  have t1 : w3.cell? ⟨q, 1, none⟩ = some (.int .i64 0) := k5.cell 1
  have t2 : w3.cell? ⟨q, 2, none⟩ = some (.bool false) := k5.cell 2
  have t3 : w3.cell? ⟨q, 3, none⟩ = some (.int .i64 0) := k5.cell 3
  have t4 : w3.cell? ⟨q, 4, none⟩ = some (.int .i64 0) := k5.cell 4
  have t5 : w3.cell? ⟨q, 5, none⟩ = some (.int .i64 0) := k5.cell 5
  have t6 : w3.cell? ⟨q, 6, none⟩ = some (.int .u64 0) := k5.cell 6
  have pc : w3.cell? ⟨w.heap.size + 1, 0, none⟩ = some (.int .u32 (x : Nat)) := kP3.cell 0
  have fc : ∀ o, w3.frozen? ⟨w.heap.size, o, none⟩ = false := kR3.free
  have hs3 := kR3.lt
  have hs4 := kP3.lt
  have hs5 := k5.lt
  clear kR3 k5 kP3
  go_wp2_with fail
  refine bodyPost_ret (v := .tuple #[.agg #[.int .i64 0, .int .i64 0, .bool false, .int .i64 0, .int .i64 0, .int .i64 0, .int .u64 0], .bool false]) (by simp [results, Try.results11, go_sem, c0, c1, c2, c3, c4, c5, c6]) rfl ⟨rfl, (((((((G3.setCell (Nat.le_refl _) _).setCell (Nat.le_refl _) _).setCell (Nat.le_refl _) _).setCell (Nat.le_refl _) _).setCell (Nat.le_refl _) _).setCell (Nat.le_refl _) _).setCell (Nat.le_refl _) _)⟩
set_option maxHeartbeats 1000000 in
theorem dec_ok (x : Nat) (hx : x < 4294967296) (k : Kd) (hkx : kOf x = k) (hk : noB k = false) (w : World) :
    Calls Try.prog 11 #[.int .u32 (x : Nat)] w fun e w' => e = .returned (.tuple #[fillV (shp k.c k.f) k.c k.f k.d x, .bool true]) ∧ Grew w w' := by
  have heq := kd_eql k false hk
  have hkind := @kindOf_c x hx
  rw [hkx] at hkind
  have HK := Lib.hid hkind
  clear hk hkx hkind
  go_enter Try.func11, Try.ntmps11
  go_wp2_with fail
  refine (partsOf_c x hx _).mono ?_
  rintro e w1 ⟨rfl, rfl⟩
  go_wp2_with fail
  refine (HK.out _ _ (by simp) (by simp)).mono ?_
  rintro e w2 ⟨rfl, g2⟩
  have kR := ((Blk.new w #[.int .i64 0, .int .i64 0, .bool false, .int .i64 0, .int .i64 0, .int .i64 0, .int .u64 0] 26 w.heap.size rfl).alloc (.cells #[.int .u32 (x : Nat)] 22)).grew g2
  have kP := (Blk.new (w.alloc (.cells #[.int .i64 0, .int .i64 0, .bool false, .int .i64 0, .int .i64 0, .int .i64 0, .int .u64 0] 26)) #[.int .u32 (x : Nat)] 22 (w.heap.size + 1) (by simp)).grew g2
  have k5 := Blk.new w2 #[.int .i64 k.c, .int .i64 k.f, .bool k.d, .int .i64 0, .int .i64 0, .int .i64 0, .int .u64 0] 26 w2.heap.size rfl
  have kR3 := kR.alloc (.cells #[.int .i64 k.c, .int .i64 k.f, .bool k.d, .int .i64 0, .int .i64 0, .int .i64 0, .int .u64 0] 26)
  have kP3 := kP.alloc (.cells #[.int .i64 k.c, .int .i64 k.f, .bool k.d, .int .i64 0, .int .i64 0, .int .i64 0, .int .u64 0] 26)
  have G3 := ((((Grew.refl w).alloc _).alloc _).trans g2).alloc (.cells #[.int .i64 k.c, .int .i64 k.f, .bool k.d, .int .i64 0, .int .i64 0, .int .i64 0, .int .u64 0] 26)
  clear kR kP g2
  go_upto_region 3 with fail
  generalize w2.alloc (.cells #[.int .i64 k.c, .int .i64 k.f, .bool k.d, .int .i64 0, .int .i64 0, .int .i64 0, .int .u64 0] 26) = w3 at *
  generalize w2.heap.size = q at *
  have c0 : w3.cell? ⟨w.heap.size, 0, none⟩ = some (.int .i64 0) := kR3.cell 0
  have c1 : w3.cell? ⟨w.heap.size, 1, none⟩ = some (.int .i64 0) := kR3.cell 1
  have c2 : w3.cell? ⟨w.heap.size, 2, none⟩ = some (.bool false) := kR3.cell 2
  have c3 : w3.cell? ⟨w.heap.size, 3, none⟩ = some (.int .i64 0) := kR3.cell 3
  have c4 : w3.cell? ⟨w.heap.size, 4, none⟩ = some (.int .i64 0) := kR3.cell 4
  have c5 : w3.cell? ⟨w.heap.size, 5, none⟩ = some (.int .i64 0) := kR3.cell 5
  have c6 : w3.cell? ⟨w.heap.size, 6, none⟩ = some (.int .u64 0) := kR3.cell 6
  have t0 : w3.cell? ⟨q, 0, none⟩ = some (.int .i64 k.c) := k5.cell 0
  have t1 : w3.cell? ⟨q, 1, none⟩ = some (.int .i64 k.f) := k5.cell 1
  have t2 : w3.cell? ⟨q, 2, none⟩ = some (.bool k.d) := k5.cell 2
  have t3 : w3.cell? ⟨q, 3, none⟩ = some (.int .i64 0) := k5.cell 3
  have t4 : w3.cell? ⟨q, 4, none⟩ = some (.int .i64 0) := k5.cell 4
  have t5 : w3.cell? ⟨q, 5, none⟩ = some (.int .i64 0) := k5.cell 5
  have t6 : w3.cell? ⟨q, 6, none⟩ = some (.int .u64 0) := k5.cell 6
  have pc : w3.cell? ⟨w.heap.size + 1, 0, none⟩ = some (.int .u32 (x : Nat)) := kP3.cell 0
  have fc : ∀ o, w3.frozen? ⟨w.heap.size, o, none⟩ = false := kR3.free
  have hs3 := kR3.lt
  have hs4 := kP3.lt
  have hs5 := k5.lt
  clear kR3 k5 kP3
  go_wp2_with fail
  clear heq
  go_region_with (first | (go_at_call 26; refine (shapeOf_c k.c k.f 0 0 0 0 k.d _).mono ?_; rintro e w5 ⟨va, vn, rfl, hv5, g5⟩; have g35 := (Grew.refl w3).drew1.trans g5; have t'0 : w5.cell? ⟨q, 0, none⟩ = some (.int .i64 k.c) := (by rw [(gcell g35).1 _ _ hs5]; exact t0); have t'1 : w5.cell? ⟨q, 1, none⟩ = some (.int .i64 k.f) := (by rw [(gcell g35).1 _ _ hs5]; exact t1); have t'2 : w5.cell? ⟨q, 2, none⟩ = some (.bool k.d) := (by rw [(gcell g35).1 _ _ hs5]; exact t2); have t'3 : w5.cell? ⟨q, 3, none⟩ = some (.int .i64 0) := (by rw [(gcell g35).1 _ _ hs5]; exact t3); have t'4 : w5.cell? ⟨q, 4, none⟩ = some (.int .i64 0) := (by rw [(gcell g35).1 _ _ hs5]; exact t4); have t'5 : w5.cell? ⟨q, 5, none⟩ = some (.int .i64 0) := (by rw [(gcell g35).1 _ _ hs5]; exact t5); have t'6 : w5.cell? ⟨q, 6, none⟩ = some (.int .u64 0) := (by rw [(gcell g35).1 _ _ hs5]; exact t6); have pc5 : w5.cell? ⟨w.heap.size + 1, 0, none⟩ = some (.int .u32 (x : Nat)) := (by rw [(gcell g35).1 _ _ hs4]; exact pc)) | (go_at_call 27; refine (fill_c k.c k.f k.c k.f k.d x hx (w.heap.size + 1) va vn _ _ (Nat.lt_of_lt_of_le hs4 g35.size) pc5 hv5).mono ?_; rintro e w6 ⟨rfl, g6⟩; have g36 := g35.trans g6; have r0 : w6.cell? ⟨w.heap.size, 0, none⟩ = some (.int .i64 0) := (by rw [(gcell g36).1 _ _ hs3]; exact c0); have r1 : w6.cell? ⟨w.heap.size, 1, none⟩ = some (.int .i64 0) := (by rw [(gcell g36).1 _ _ hs3]; exact c1); have r2 : w6.cell? ⟨w.heap.size, 2, none⟩ = some (.bool false) := (by rw [(gcell g36).1 _ _ hs3]; exact c2); have r3 : w6.cell? ⟨w.heap.size, 3, none⟩ = some (.int .i64 0) := (by rw [(gcell g36).1 _ _ hs3]; exact c3); have r4 : w6.cell? ⟨w.heap.size, 4, none⟩ = some (.int .i64 0) := (by rw [(gcell g36).1 _ _ hs3]; exact c4); have r5 : w6.cell? ⟨w.heap.size, 5, none⟩ = some (.int .i64 0) := (by rw [(gcell g36).1 _ _ hs3]; exact c5); have r6 : w6.cell? ⟨w.heap.size, 6, none⟩ = some (.int .u64 0) := (by rw [(gcell g36).1 _ _ hs3]; exact c6); have fr : ∀ o, w6.frozen? ⟨w.heap.size, o, none⟩ = false := (fun o => by rw [(gcell g36).2 _ _ hs3]; exact fc o); have hs6 := Nat.lt_of_lt_of_le hs3 g36.size))
  all_goals
    go_wp2_with fail
    refine bodyPost_ret (v := .tuple #[fillV (shp k.c k.f) k.c k.f k.d x, .bool true]) (by simp [results, Try.results11, go_sem, r0, r1, r2, r3, r4, r5, r6]) rfl ⟨rfl, ((((((((G3.trans g36).setCell (Nat.le_refl _) _).setCell (Nat.le_refl _) _).setCell (Nat.le_refl _) _).setCell (Nat.le_refl _) _).setCell (Nat.le_refl _) _).setCell (Nat.le_refl _) _).setCell (Nat.le_refl _) _)⟩
theorem decode_c (x : Nat) (hx : x < 4294967296) (w : World) :
    Calls Try.prog 11 #[.int .u32 (x : Nat)] w fun e w' => e = .returned (.tuple #[iV (if noB (kOf x) then noI else decI x), .bool (!noB (kOf x))]) ∧ Grew w w' := by
  by_cases h : noB (kOf x) = true
  · rw [if_pos h, h]
    exact dec_no x hx _ rfl h w
  · have h' : noB (kOf x) = false := by simpa using h
    rw [if_neg h, h']
    exact dec_ok x hx _ rfl h' w
end Go.Proofs.Ytgekmhcekkmdhaa
