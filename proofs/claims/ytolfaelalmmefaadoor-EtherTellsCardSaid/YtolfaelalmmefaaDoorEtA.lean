/-
  Package ether: what frames and messages are in plain lists; small functions; why bytes are refused.
-/
import Derived.Test.YtolfaelalmmefaaDoorPutG
import Derived.Test.YtolfaelalmmefaaDoorCat
import Derived.Test.YtolfaelalmmefaaDoorClone
import Derived.LaidEql
import Derived.Stop.Asserts
import Derived.RowKitTokens
set_option maxRecDepth 4000
set_option linter.unusedVariables false
set_option linter.unusedSimpArgs false
namespace Go.Proofs.YtolfaelalmmefaaDoor
open Go.RowKit Go.Extern.Stop Go.Stop Go.Extern

theorem boolEq {n m : Nat} : (decide ((n : Int) = (m : Nat))) = decide (n = m) := by
  by_cases h : n = m
  · subst h; simp
  · rw [decide_eq_false h, decide_eq_false (by omega)]

theorem isMac_c (a : Option Addr) (n c : Nat) (b : Bool) (hb : ((n : Int) == 6) = b) (w : World) :
    Calls Tryd.prog 34 #[.slice a n c] w fun e w' => e = .returned (.bool b) ∧ w' = w := by
  subst hb
  go_enter Tryd.func34, Tryd.ntmps34
  go_wp2_with fail
  go_ret
  exact ⟨ret_bool (by first | rfl | simp), rfl⟩
theorem isOp_c (x : Int) (b : Bool) (hb : decide (x = 1 ∨ x = 2) = b) (w : World) :
    Calls Tryd.prog 46 #[.int .i64 x] w fun e w' => e = .returned (.bool b) ∧ w' = w := by
  subst hb
  by_cases h1 : x = 1
  · subst h1
    go_enter Tryd.func46, Tryd.ntmps46
    go_wp2_with fail
    go_ret
    exact ⟨rfl, rfl⟩
  · have e1 : (x == 1) = false := by simpa using h1
    by_cases h2 : x = 2
    · subst h2
      go_enter Tryd.func46, Tryd.ntmps46
      go_wp2_with fail
      go_ret
      exact ⟨rfl, rfl⟩
    · have e2 : (x == 2) = false := by simpa using h2
      have hd : decide (x = 1 ∨ x = 2) = false := decide_eq_false (by omega)
      rw [hd]
      clear hd h1 h2
      go_enter Tryd.func46, Tryd.ntmps46
      go_wp2_with fail
      go_ret
      exact ⟨rfl, rfl⟩
theorem pair_c (x : Int) (h0 : 0 ≤ x) (h1 : x ≤ 9223372036854775807) (w : World) :
    Calls Tryd.prog 26 #[.int .i64 x] w fun e w' => ∃ a c, e = .returned (.slice a 2 c) ∧ Buf w' (.slice a 2 c) (putL x 2 true) ∧ Grew w w' := by
  have hw : IntKind.u64.wrap x = x := IntWalk.u64_in x (by omega)
  go_enter Tryd.func26, Tryd.ntmps26
  go_wp2_with fail
  try rw [hw]
  refine (putB_c x _ 2 true (by rfl) (by omega) (by omega) (by omega) _).mono ?_
  rintro e w1 ⟨u1, rfl, r1, b1, g1⟩
  obtain ⟨a, c, rfl, _, _⟩ := b1.shape
  rw [putB_len] at b1 ⊢
  have B1 := Lib.hid b1
  clear b1 r1
  go_wp2_with fail
  go_ret
  exact ⟨_, _, rfl, B1.out, g1⟩
theorem address_c (x : Int) (h0 : 0 ≤ x) (h1 : x < 4294967296) (w : World) :
    Calls Tryd.prog 30 #[.int .u32 x] w fun e w' => ∃ a c, e = .returned (.slice a 4 c) ∧ Buf w' (.slice a 4 c) (putL x 4 true) ∧ Grew w w' := by
  have hw : IntKind.u64.wrap x = x := IntWalk.u64_in x (by omega)
  go_enter Tryd.func30, Tryd.ntmps30
  go_wp2_with fail
  try rw [hw]
  refine (putB_c x _ 4 true (by rfl) (by omega) (by omega) (by omega) _).mono ?_
  rintro e w1 ⟨u1, rfl, r1, b1, g1⟩
  obtain ⟨a, c, rfl, _, _⟩ := b1.shape
  rw [putB_len] at b1 ⊢
  have B1 := Lib.hid b1
  clear b1 r1
  go_wp2_with fail
  go_ret
  exact ⟨_, _, rfl, B1.out, g1⟩

/-- What every message begins with. -/
def headL : List Int := [0, 1, 8, 0, 6, 4]
theorem headL_ok : AreBytes headL := by
  intro x hx
  simp [headL] at hx
  omega
theorem head_flat : [putL 1 2 true, putL 2048 2 true, [6, 4]].flatten = headL := by decide +kernel
theorem six_four : AreBytes [6, 4] := by
  intro x hx
  simp at hx
  omega
set_option maxHeartbeats 1000000 in
theorem arpHead_c (w : World) :
    Calls Tryd.prog 29 #[] w fun e w' => ∃ a c, e = .returned (.slice a 6 c) ∧ Buf w' (.slice a 6 c) headL ∧ Grew w w' := by
  go_enter Tryd.func29, Tryd.ntmps29
  go_wp2_with fail
  refine (pair_c 1 (by omega) (by omega) _).mono ?_
  rintro e w1 ⟨p1, c1, rfl, b1, g1⟩
  have B1 := Lib.hid b1
  clear b1
  go_wp2_with fail
  refine (pair_c 2048 (by omega) (by omega) _).mono ?_
  rintro e w2 ⟨p2, c2, rfl, b2, g2⟩
  have B2 := Lib.hid b2
  clear b2
  go_wp2_with fail
  have g3 : Grew w2 ((w2.alloc (.cells #[.int .u8 6, .int .u8 4] 5)).alloc (.cells #[.slice p1 2 c1, .slice p2 2 c2, .slice (some ⟨w2.heap.size, 0, none⟩) 2 2] 22)) := ((Grew.refl w2).alloc _).alloc _
  have K5 : Blk ((w2.alloc (.cells #[.int .u8 6, .int .u8 4] 5)).alloc (.cells #[.slice p1 2 c1, .slice p2 2 c2, .slice (some ⟨w2.heap.size, 0, none⟩) 2 2] 22)) (w2.heap.size + 1) #[.slice p1 2 c1, .slice p2 2 c2, .slice (some ⟨w2.heap.size, 0, none⟩) 2 2] 22 := Blk.new _ _ _ _ (by simp)
  have b3 : Buf ((w2.alloc (.cells #[.int .u8 6, .int .u8 4] 5)).alloc (.cells #[.slice p1 2 c1, .slice p2 2 c2, .slice (some ⟨w2.heap.size, 0, none⟩) 2 2] 22)) (.slice (some ⟨w2.heap.size, 0, none⟩) 2 2) [6, 4] :=
    ((Row.lit w2 w2.heap.size (Nat.le_refl _) #[.int .u8 6, .int .u8 4] [6, 4] rfl (by unfold maxLen; simp) _ rfl 2 rfl).buf six_four).grew ((Grew.refl _).alloc _)
  generalize ((w2.alloc (.cells #[.int .u8 6, .int .u8 4] 5)).alloc (.cells #[.slice p1 2 c1, .slice p2 2 c2, .slice (some ⟨w2.heap.size, 0, none⟩) 2 2] 22)) = w3 at *
  have b1' := B1.out.grew (g2.trans g3)
  have b2' := B2.out.grew g3
  have hB : Bufs w3 (.slice (some ⟨w2.heap.size + 1, 0, none⟩) 3 3) [putL 1 2 true, putL 2048 2 true, [6, 4]] :=
    Bufs.ofBlk K5 _ 3 3 rfl (by unfold maxLen; simp) (fun i hi => by
      match i, hi with
      | 0, _ => exact ⟨_, rfl, b1'⟩
      | 1, _ => exact ⟨_, rfl, b2'⟩
      | 2, _ => exact ⟨_, rfl, b3⟩)
  have HC := Lib.hid (concat_b w3 hB (by rw [head_flat]; simp [headL]))
  rw [head_flat] at HC
  have g03 := (g1.trans g2).trans g3
  clear b1' b2' b3 hB K5 B1 B2
  refine HC.out.mono ?_
  rintro e w6 ⟨u6, rfl, r6, b6, g6⟩
  obtain ⟨a, c, rfl, _, _⟩ := b6.shape
  have B6 := Lib.hid b6
  clear r6 b6
  go_wp2_with fail
  go_ret
  exact ⟨_, _, rfl, B6.out, g03.trans g6⟩

theorem own_c {v : Value} {xs : List Int} (hl : xs.length ≤ 140737488355328) {w : World} (hb : Buf w v xs) :
    Calls Tryd.prog 31 #[v] w fun e w' => ∃ a c, e = .returned (.slice a xs.length c) ∧ Row w' w.heap.size (.slice a xs.length c) xs ∧ Buf w' (.slice a xs.length c) xs ∧ Grew w w' := by
  obtain ⟨a, c, rfl, hc, ha⟩ := hb.shape
  have HB := Lib.hid hb
  clear hb hc ha
  go_enter Tryd.func31, Tryd.ntmps31
  go_wp2_with (refine wpList_append_b (W := w) rfl (.tmp 3) (.tmp 4) rfl (by exact (Grew.refl w).alloc _) (Row.lit w w.heap.size (Nat.le_refl _) #[] [] rfl (Nat.zero_le _) _ rfl 0 rfl) (HB.out.grew ((Grew.refl w).alloc _)) (by rfl) (by rfl) (by simpa using hl) ?_; intro v1 w1 HR1 g1 q1; clear q1; have HB1 := Lib.hid (HR1.out.buf HB.out.ok); obtain ⟨ao, co, eo, _, _⟩ := HB1.out.shape; subst eo)
  go_ret
  exact ⟨_, _, rfl, HR1.out, HB1.out, g1⟩
theorem number_c (x s : Int) (n : Nat) (hs : s = n) (hn : n ≤ 8) (hx0 : 0 ≤ x) (hx1 : x < 18446744073709551616) (w : World) :
    Calls Tryd.prog 32 #[.int .u64 x, .int .i64 s] w fun e w' => ∃ a c, e = .returned (.slice a n c) ∧ Row w' w.heap.size (.slice a n c) (putL x n true) ∧ Buf w' (.slice a n c) (putL x n true) ∧ Grew w w' := by
  subst hs
  have HH := Lib.hid (refPutB_c x (n : Int) n true rfl hn hx0 hx1 w)
  clear hn
  go_enter Tryd.func32, Tryd.ntmps32
  go_wp2_with fail
  refine HH.out.mono ?_
  rintro e w1 ⟨u1, rfl, r1, b1, g1⟩
  obtain ⟨a, c, rfl, _, _⟩ := b1.shape
  rw [putB_len] at r1 b1 ⊢
  have B1 := Lib.hid b1
  have R1 := Lib.hid r1
  clear b1 r1
  go_wp2_with fail
  go_ret
  exact ⟨_, _, rfl, R1.out, B1.out, g1⟩

/-! ### Why bytes are refused -/
abbrev erV (a : Addr) : Value := .iface 101 (.pointer (some a))
abbrev rsA (s : ByteArray) (n : Int) (a : Addr) : Value := .agg #[.string s, .int .i64 n, erV a]
abbrev rsV (s : ByteArray) (n : Int) (a : Addr) : Value := .iface 72 (rsA s n a)
theorem iTypeOf (v : Value) (w : World) : (Extern.ReflectliteType.typeOf #[.iface 101 v]).run Tryd.prog w = .ok (.iface 91 (.agg #[.pointer (some ⟨3, 101, none⟩)])) w := by kernel_rfl
theorem iComparable (w : World) : ((Extern.ReflectliteType.method fun t => do Extern.Rtype.noPackHeld "Comparable" t; (fun a => Value.bool a.comparable) <$> typeInfo t) #[.agg #[.pointer (some ⟨3, 101, none⟩)]]).run Tryd.prog w = .ok (.bool true) w := by kernel_rfl
theorem iComp : (Tryd.prog.info? 101).map (·.comparable) = some true := by kernel_rfl
theorem iSize : (Tryd.prog.info? 125).map (·.size) = some 1 := by kernel_rfl
theorem noIsE (v : Value) (xT : TypeId) (w : World) : (Instr.typeAssert (.iface 101 v) xT 93 true).run Tryd.prog w = .ok (.tuple #[.nilIface, .bool false]) w := run_typeAssert_lacksB Tryd.underlying93 (by kernel_rfl) (by kernel_rfl) v xT w
theorem noUnwrapE (v : Value) (xT : TypeId) (w : World) : (Instr.typeAssert (.iface 101 v) xT 96 true).run Tryd.prog w = .ok (.tuple #[.nilIface, .bool false]) w := run_typeAssert_lacksB Tryd.underlying96 (by kernel_rfl) (by kernel_rfl) v xT w
theorem noUnwrapsE (v : Value) (xT : TypeId) (w : World) : (Instr.typeAssert (.iface 101 v) xT 98 true).run Tryd.prog w = .ok (.tuple #[.nilIface, .bool false]) w := run_typeAssert_lacksB Tryd.underlying98 (by kernel_rfl) (by kernel_rfl) v xT w
theorem noIsW (v : Value) (xT : TypeId) (w : World) : (Instr.typeAssert (.iface 72 v) xT 93 true).run Tryd.prog w = .ok (.tuple #[.nilIface, .bool false]) w := run_typeAssert_lacksB Tryd.underlying93 (by kernel_rfl) (by kernel_rfl) v xT w
theorem hasUnwrapW (v : Value) (xT : TypeId) (w : World) : (Instr.typeAssert (.iface 72 v) xT 96 true).run Tryd.prog w = .ok (.tuple #[.iface 72 v, .bool true]) w := run_typeAssert_hasB Tryd.underlying96 (by kernel_rfl) v xT w

theorem unwrap_c (s : ByteArray) (n : Int) (a : Addr) {W w : World} (hg : Grew W w) : Calls Tryd.prog 68 #[rsA s n a] w fun e w' => e = .returned (erV a) ∧ Grew W w' := by
  go_enter Tryd.func68, Tryd.ntmps68
  go_wp2
  go_ret
  exact ⟨rfl, hg.alloc _⟩
/-- A refusal that wraps b is b. -/
theorem is_same (s : ByteArray) (n : Int) (b : Addr) {W w : World} (hg : Grew W w) :
    Calls Tryd.prog 40 #[rsV s n b, erV b] w fun e w' => e = .returned (.bool true) ∧ Grew W w' := by
  obtain ⟨i, hi, hcmp⟩ := Option.map_eq_some_iff.1 iComp
  obtain ⟨j, hj, hjs⟩ := Option.map_eq_some_iff.1 iSize
  have h8 := @run_callFunc_extern Tryd.prog 49 _ Extern.ReflectliteType.typeOf Tryd.func49 (by kernel_rfl) (by kernel_rfl) (by kernel_rfl) (by kernel_rfl)
  have h32 := @run_callFunc_extern Tryd.prog 72 _ (Extern.ReflectliteType.method fun t => do Extern.Rtype.noPackHeld "Comparable" t; pure (.bool (← typeInfo t).comparable)) Tryd.func72 (by kernel_rfl) (by kernel_rfl) (by kernel_rfl) (by kernel_rfl)
  have tT := iTypeOf
  have cT := iComparable
  have nE := noIsE
  have uE := noUnwrapE
  have vE := noUnwrapsE
  have nW := noIsW
  have uW := hasUnwrapW
  have heq := fun w => run_eql_iface_ptr_same (P := Tryd.prog) w b Tryd.underlying55 Tryd.underlying101 hi hcmp hj
  have hty := run_eql_iface_types (P := Tryd.prog) 72 101 (rsA s n b) (.pointer (some b)) Tryd.underlying55 (by decide) w
  go_enter Tryd.func40, Tryd.ntmps40
  go_wp2
  refine wp_loop_rounds 2 ?_
  rw [rounds_succ]
  go_wp2_with (go_at_call 68; refine (unwrap_c _ _ _ hg).mono ?_; rintro e w1 ⟨rfl, g1⟩)
  rw [rounds_succ]
  go_wp2
  go_ret
  exact ⟨rfl, g1⟩
/-- A refusal that wraps another is not b. -/
theorem is_other (s : ByteArray) (n : Int) (a b : Addr) (hne : a ≠ b) {W w : World} (ha : ∃ c t, Blk W a.block c t) (hb : ∃ c t, Blk W b.block c t) (hg : Grew W w) :
    Calls Tryd.prog 40 #[rsV s n a, erV b] w fun e w' => e = .returned (.bool false) ∧ Grew W w' := by
  obtain ⟨i, hi, hcmp⟩ := Option.map_eq_some_iff.1 iComp
  obtain ⟨j, hj, hjs⟩ := Option.map_eq_some_iff.1 iSize
  have h8 := @run_callFunc_extern Tryd.prog 49 _ Extern.ReflectliteType.typeOf Tryd.func49 (by kernel_rfl) (by kernel_rfl) (by kernel_rfl) (by kernel_rfl)
  have h32 := @run_callFunc_extern Tryd.prog 72 _ (Extern.ReflectliteType.method fun t => do Extern.Rtype.noPackHeld "Comparable" t; pure (.bool (← typeInfo t).comparable)) Tryd.func72 (by kernel_rfl) (by kernel_rfl) (by kernel_rfl) (by kernel_rfl)
  have tT := iTypeOf
  have cT := iComparable
  have nE := noIsE
  have uE := noUnwrapE
  have vE := noUnwrapsE
  have nW := noIsW
  have uW := hasUnwrapW
  obtain ⟨ca, ta, ha⟩ := ha
  obtain ⟨cb, tb, hb⟩ := hb
  have HA := Lib.hid ha
  have HB := Lib.hid hb
  clear ha hb
  have hty := run_eql_iface_types (P := Tryd.prog) 72 101 (rsA s n a) (.pointer (some b)) Tryd.underlying55 (by decide) w
  go_enter Tryd.func40, Tryd.ntmps40
  go_wp2
  refine wp_loop_rounds 2 ?_
  rw [rounds_succ]
  go_wp2_with (go_at_call 68; refine (unwrap_c _ _ _ hg).mono ?_; rintro e w1 ⟨rfl, g1⟩; have heq := run_eql_iface_ptr_other (P := Tryd.prog) w1 Tryd.underlying55 Tryd.underlying101 hi hcmp hj (by rw [hjs]; decide) hne (HA.out.grew g1) (HB.out.grew g1))
  rw [rounds_succ]
  go_wp2
  go_ret
  exact ⟨rfl, g1⟩
end Go.Proofs.YtolfaelalmmefaaDoor
