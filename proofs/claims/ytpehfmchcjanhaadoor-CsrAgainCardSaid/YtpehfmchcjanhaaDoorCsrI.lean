/-
  errors.Is at what package csr hands it: no error; a refusal that wraps one sentinel or the other.
-/
import Derived.Test.YtpehfmchcjanhaaDoorCsrE
import Derived.LaidEql
import Derived.Stop.Asserts
import Derived.RowKitTokens
set_option linter.unusedVariables false
set_option linter.unusedSimpArgs false
namespace Go.Proofs.YtpehfmchcjanhaaDoor
open Go.RowKit Go.Extern.Stop Go.Stop Go.Extern

/-! what 'reflectlite.TypeOf(target).Comparable()' gives at a sentinel; what errors.is's assertions find -/
theorem iTypeOf (v : Value) (w : World) : (Extern.ReflectliteType.typeOf #[.iface 73 v]).run Tryd.prog w = .ok (.iface 63 (.agg #[.pointer (some ⟨2, 73, none⟩)])) w := by kernel_rfl
theorem iComparable (w : World) : ((Extern.ReflectliteType.method fun t => do Extern.Rtype.noPackHeld "Comparable" t; (fun a => Value.bool a.comparable) <$> typeInfo t) #[.agg #[.pointer (some ⟨2, 73, none⟩)]]).run Tryd.prog w = .ok (.bool true) w := by kernel_rfl
theorem iComp : (Tryd.prog.info? 73).map (·.comparable) = some true := by kernel_rfl
theorem iSize : (Tryd.prog.info? 99).map (·.size) = some 1 := by kernel_rfl
theorem noIsE (v : Value) (xT : TypeId) (w : World) : (Instr.typeAssert (.iface 73 v) xT 65 true).run Tryd.prog w = .ok (.tuple #[.nilIface, .bool false]) w := run_typeAssert_lacksB Tryd.underlying65 (by kernel_rfl) (by kernel_rfl) v xT w
theorem noUnwrapE (v : Value) (xT : TypeId) (w : World) : (Instr.typeAssert (.iface 73 v) xT 68 true).run Tryd.prog w = .ok (.tuple #[.nilIface, .bool false]) w := run_typeAssert_lacksB Tryd.underlying68 (by kernel_rfl) (by kernel_rfl) v xT w
theorem noUnwrapsE (v : Value) (xT : TypeId) (w : World) : (Instr.typeAssert (.iface 73 v) xT 70 true).run Tryd.prog w = .ok (.tuple #[.nilIface, .bool false]) w := run_typeAssert_lacksB Tryd.underlying70 (by kernel_rfl) (by kernel_rfl) v xT w
theorem noIsW (v : Value) (xT : TypeId) (w : World) : (Instr.typeAssert (.iface 51 v) xT 65 true).run Tryd.prog w = .ok (.tuple #[.nilIface, .bool false]) w := run_typeAssert_lacksB Tryd.underlying65 (by kernel_rfl) (by kernel_rfl) v xT w
theorem hasUnwrapW (v : Value) (xT : TypeId) (w : World) : (Instr.typeAssert (.iface 51 v) xT 68 true).run Tryd.prog w = .ok (.tuple #[.iface 51 v, .bool true]) w := run_typeAssert_hasB Tryd.underlying68 (by kernel_rfl) v xT w

theorem unwrap_c (n p : Int) (a : Addr) {W w : World} (hg : Grew W w) : Calls Tryd.prog 70 #[.agg #[.int .i64 n, .int .i64 p, erV a]] w fun e w' => e = .returned (erV a) ∧ Grew W w' := by
  go_enter Tryd.func70, Tryd.ntmps70
  go_wp2
  go_ret
  exact ⟨rfl, hg.alloc _⟩

/-- No error is none. -/
theorem is_nil (b : Addr) (w : World) : Calls Tryd.prog 18 #[.nilIface, erV b] w fun e w' => e = .returned (.bool false) ∧ w' = w := by
  have hn := run_eql_iface_nil_left (P := Tryd.prog) w 73 (.pointer (some b)) Tryd.underlying40
  go_enter Tryd.func18, Tryd.ntmps18
  go_wp2
  go_ret
  exact ⟨rfl, rfl⟩

/-- A refusal that wraps b is b. -/
theorem is_same (n p : Int) (b : Addr) {W w : World} (hg : Grew W w) :
    Calls Tryd.prog 18 #[rsV n p (erV b), erV b] w fun e w' => e = .returned (.bool true) ∧ Grew W w' := by
  obtain ⟨i, hi, hcmp⟩ := Option.map_eq_some_iff.1 iComp
  obtain ⟨j, hj, hjs⟩ := Option.map_eq_some_iff.1 iSize
  have h8 := @run_callFunc_extern Tryd.prog 27 _ Extern.ReflectliteType.typeOf Tryd.func27 (by kernel_rfl) (by kernel_rfl) (by kernel_rfl) (by kernel_rfl)
  have h32 := @run_callFunc_extern Tryd.prog 74 _ (Extern.ReflectliteType.method fun t => do Extern.Rtype.noPackHeld "Comparable" t; pure (.bool (← typeInfo t).comparable)) Tryd.func74 (by kernel_rfl) (by kernel_rfl) (by kernel_rfl) (by kernel_rfl)
  have tT := iTypeOf
  have cT := iComparable
  have nE := noIsE
  have uE := noUnwrapE
  have vE := noUnwrapsE
  have nW := noIsW
  have uW := hasUnwrapW
  have heq := fun w => run_eql_iface_ptr_same (P := Tryd.prog) w b Tryd.underlying40 Tryd.underlying73 hi hcmp hj
  have hty := run_eql_iface_types (P := Tryd.prog) 51 73 (.agg #[.int .i64 n, .int .i64 p, erV b]) (.pointer (some b)) Tryd.underlying40 (by decide) w
  go_enter Tryd.func18, Tryd.ntmps18
  go_wp2
  refine wp_loop_rounds 2 ?_
  rw [rounds_succ]
  go_wp2_with (go_at_call 70; refine (unwrap_c _ _ _ hg).mono ?_; rintro e w1 ⟨rfl, g1⟩)
  rw [rounds_succ]
  go_wp2
  go_ret
  exact ⟨rfl, g1⟩
/-- A refusal that wraps another is not b. -/
theorem is_other (n p : Int) (a b : Addr) (hne : a ≠ b) {W w : World} (ha : ∃ c t, Blk W a.block c t) (hb : ∃ c t, Blk W b.block c t) (hg : Grew W w) :
    Calls Tryd.prog 18 #[rsV n p (erV a), erV b] w fun e w' => e = .returned (.bool false) ∧ Grew W w' := by
  obtain ⟨i, hi, hcmp⟩ := Option.map_eq_some_iff.1 iComp
  obtain ⟨j, hj, hjs⟩ := Option.map_eq_some_iff.1 iSize
  have h8 := @run_callFunc_extern Tryd.prog 27 _ Extern.ReflectliteType.typeOf Tryd.func27 (by kernel_rfl) (by kernel_rfl) (by kernel_rfl) (by kernel_rfl)
  have h32 := @run_callFunc_extern Tryd.prog 74 _ (Extern.ReflectliteType.method fun t => do Extern.Rtype.noPackHeld "Comparable" t; pure (.bool (← typeInfo t).comparable)) Tryd.func74 (by kernel_rfl) (by kernel_rfl) (by kernel_rfl) (by kernel_rfl)
  have tT := iTypeOf
  have cT := iComparable
  have nE := noIsE
  have uE := noUnwrapE
  have vE := noUnwrapsE
  have nW := noIsW
  have uW := hasUnwrapW
  obtain ⟨ca, ta, ha⟩ := ha
  obtain ⟨cb, tb, hb⟩ := hb
  have HA := Lib.hid ha
  have HB := Lib.hid hb
  clear ha hb
  have hty := run_eql_iface_types (P := Tryd.prog) 51 73 (.agg #[.int .i64 n, .int .i64 p, erV a]) (.pointer (some b)) Tryd.underlying40 (by decide) w
  go_enter Tryd.func18, Tryd.ntmps18
  go_wp2
  refine wp_loop_rounds 2 ?_
  rw [rounds_succ]
  go_wp2_with (go_at_call 70; refine (unwrap_c _ _ _ hg).mono ?_; rintro e w1 ⟨rfl, g1⟩; have heq := run_eql_iface_ptr_other (P := Tryd.prog) w1 Tryd.underlying40 Tryd.underlying73 hi hcmp hj (by rw [hjs]; decide) hne (HA.out.grew g1) (HB.out.grew g1))
  rw [rounds_succ]
  go_wp2
  go_ret
  exact ⟨rfl, g1⟩
end Go.Proofs.YtpehfmchcjanhaaDoor
