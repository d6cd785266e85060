/-
  Package csr's find: which register is refused, and why.
-/
import Derived.Test.YtpehfmchcjanhaaDoorCsrC
import Derived.Test.YtpehfmchcjanhaaDoorCsrD
import Derived.BigFrame
set_option linter.unusedVariables false
set_option linter.unusedSimpArgs false
namespace Go.Proofs.YtpehfmchcjanhaaDoor
open Go.RowKit

/-- A whole load whose guard says yes. -/
theorem lw_cs {ops : Array Oper} {rest : List Oper} {o : Oper} {a : Act} {w : World} {Q : Exit → Act → World → Prop} (hw : Region.wanted o (yielded ops a.tmps) = true) (x : Operand) (ho : o.op = .load 24 x) (d : Option Tmp) (hd : o.dst = d) {g : Nat} {c : Nat → Int} {T : TypeId}
    (k : Blk w g (csA c) T) (hx : a.eval x = .pointer (some ⟨g, 0, none⟩)) (h : wpList Tryd.prog ops Q rest (a.put d (csV c)) w) : wpList Tryd.prog ops Q (o :: rest) a w := by
  subst hd
  exact BigFrame.wpList_want hw fun K hK => wp_load_row _ x ho g hx T (csA c) (0, 0) _ k Tryd.underlying24 rfl csInfo (hK _ _ h)
theorem lw_st {ops : Array Oper} {rest : List Oper} {o : Oper} {a : Act} {w : World} {Q : Exit → Act → World → Prop} (hw : Region.wanted o (yielded ops a.tmps) = true) (x : Operand) (ho : o.op = .load 36 x) (d : Option Tmp) (hd : o.dst = d) {g : Nat} {c : Nat → Int} {T : TypeId}
    (k : Blk w g (csA c) T) (hx : a.eval x = .pointer (some ⟨g, 0, none⟩)) (h : wpList Tryd.prog ops Q rest (a.put d (csV c)) w) : wpList Tryd.prog ops Q (o :: rest) a w := by
  subst hd
  exact BigFrame.wpList_want hw fun K hK => wp_load_row _ x ho g hx T (csA c) (0, 0) _ k Tryd.underlying36 rfl stInfo (hK _ _ h)

/-- The least privilege that reads n; is n only read? -/
def lvV (n : Int) : Int := bits .and .i64 (n / 256) 3
def roB (n : Int) : Bool := bits .and .i64 (n / 1024) 3 == 3
theorem level_c (n : Int) (w : World) : Calls Tryd.prog 23 #[.int .i64 n] w fun e w' => e = .returned (.int .i64 (lvV n)) ∧ w = w' := by
  go_enter Tryd.func23, Tryd.ntmps23
  go_wp2
  go_ret
  exact ⟨rfl, rfl⟩
theorem only_c (n : Int) (w : World) : Calls Tryd.prog 25 #[.int .i64 n] w fun e w' => e = .returned (.bool (roB n)) ∧ w = w' := by
  go_enter Tryd.func25, Tryd.ntmps25
  go_wp2
  go_ret
  exact ⟨rfl, rfl⟩
/-- Does Status keep Satp from p? -/
def hidB (c : Nat → Int) (n p : Int) : Bool := n == 384 && (p == 1 && (bits .and .u64 (c 0) 1048576 != 0))
theorem hides_c (c : Nat → Int) (n p : Int) {W w : World} (hg : Grew W w) : Calls Tryd.prog 24 #[csV c, .int .i64 n, .int .i64 p] w fun e w' => e = .returned (.bool (hidB c n p)) ∧ Grew W w' := by
  by_cases h1 : n = 384
  · subst h1
    by_cases h2 : p = 1
    · subst h2
      rw [show hidB c 384 1 = (bits .and .u64 (c 0) 1048576 != 0) by simp [hidB]]
      go_enter Tryd.func24, Tryd.ntmps24
      go_wp2
      go_ret
      exact ⟨rfl, hg.alloc _⟩
    · have h2' : (p == 1) = false := by simpa using h2
      rw [show hidB c 384 p = false by simp [hidB, h2']]
      clear h2
      go_enter Tryd.func24, Tryd.ntmps24
      go_wp2
      go_ret
      exact ⟨rfl, hg.alloc _⟩
  · have h1' : (n == 384) = false := by simpa using h1
    rw [show hidB c n p = false by simp [hidB, h1']]
    clear h1
    go_enter Tryd.func24, Tryd.ntmps24
    go_wp2
    go_ret
    exact ⟨rfl, hg.alloc _⟩

/-! ### find -/
/-- An error of errors.New's make. -/
abbrev erV (a : Addr) : Value := .iface 73 (.pointer (some a))
abbrev rsV (n p : Int) (v : Value) : Value := .iface 51 (.agg #[.int .i64 n, .int .i64 p, v])
theorem fn_nil (k : FuncId) (w : World) : (binOp BinOp.eql 38 (.func (.func k) #[] #[]) .nilFunc).run Tryd.prog w = .ok (.bool false) w := by kernel_rfl
theorem nil_nil (w : World) : (binOp BinOp.eql 38 .nilFunc .nilFunc).run Tryd.prog w = .ok (.bool true) w := by kernel_rfl

set_option maxRecDepth 100000 in
set_option maxHeartbeats 1000000 in
theorem find_none (c : Nat → Int) (n p : Int) (hn : ∀ k, k < 26 → (nmR k == n) = false) (a0 : Addr) {W w : World} (hg : Grew W w) (hz : 0 < W.heap.size) (he : W.cell? ⟨0, 0, none⟩ = some (erV a0)) :
    Calls Tryd.prog 16 #[csV c, .int .i64 n, .int .i64 p] w fun e w' => e = .returned (.tuple #[.nilFunc, rsV n p (erV a0)]) ∧ Grew W w' := by
  have HN := Lib.hid hn
  clear hn
  have hnn := nil_nil
  go_enter Tryd.func16, Tryd.ntmps16
  go_wp2_with fail
  refine (readerOf_no n HN.out (hg.alloc _)).mono ?_
  rintro e w1 ⟨rfl, g1⟩
  have he1 : w1.cell? ⟨0, 0, none⟩ = some (erV a0) := by rw [(gcell g1).1 0 0 hz]; exact he
  clear he
  go_wp2_with fail
  go_quiet (fail)
  go_wp2
  go_ret2
  exact ⟨rfl, g1.drewN _⟩

set_option maxRecDepth 100000 in
set_option maxHeartbeats 1000000 in
theorem find_low (c : Nat → Int) (k : Nat) (hk : k < 26) (p : Int) (hl : decide (p < lvV (nmR k)) = true) (a0 a1 : Addr) {W w : World} (hg : Grew W w) (hz : 1 < W.heap.size) (he : W.cell? ⟨0, 0, none⟩ = some (erV a0)) (he' : W.cell? ⟨1, 0, none⟩ = some (erV a1)) :
    Calls Tryd.prog 16 #[csV c, .int .i64 (nmR k), .int .i64 p] w fun e w' => e = .returned (.tuple #[.nilFunc, rsV (nmR k) p (erV a0)]) ∧ Grew W w' := by
  have hz0 : 0 < W.heap.size := by omega
  have h0 := (gcell hg).1 0 0 hz0
  have h1 := (gcell hg).1 1 0 hz
  rw [he] at h0
  rw [he'] at h1
  clear he he'
  have zw : 1 < w.heap.size := by have := hg.size; omega
  have zw0 : 0 < w.heap.size := by omega
  have hfn := fn_nil (fnR k)
  have HK := Lib.hid hk
  have H0 := Lib.hid h0
  have H1 := Lib.hid h1
  clear hk h0 h1
  go_enter Tryd.func16, Tryd.ntmps16
  go_wp2_with fail
  refine (readerOf_yes k HK.out (Grew.refl _)).mono ?_
  rintro e w1 ⟨rfl, g1⟩
  have kb : Blk w1 w.heap.size (csA c) 36 := (Blk.new _ _ _ _ rfl).grew g1
  have gw : Grew w w1 := ((Grew.refl w).alloc _).trans g1
  have zw1 : 1 < w1.heap.size := by have := gw.size; omega
  clear g1
  go_wp2_with fail
  refine (level_c _ _).mono ?_
  rintro e w2 ⟨rfl, rfl⟩
  have he0 : w1.cell? ⟨0, 0, none⟩ = some (erV a0) := by rw [(gcell gw).1 0 0 zw0]; exact H0.out
  go_wp2_with fail
  go_quiet (fail)
  go_wp2
  go_ret2
  exact ⟨rfl, (hg.trans gw).drewN _⟩

set_option maxRecDepth 100000 in
set_option maxHeartbeats 1000000 in
theorem find_hid (c : Nat → Int) (k : Nat) (hk : k < 26) (p : Int) (hl : decide (p < lvV (nmR k)) = false) (hh : hidB c (nmR k) p = true) (a0 a1 : Addr) {W w : World} (hg : Grew W w) (hz : 1 < W.heap.size) (he : W.cell? ⟨0, 0, none⟩ = some (erV a0)) (he' : W.cell? ⟨1, 0, none⟩ = some (erV a1)) :
    Calls Tryd.prog 16 #[csV c, .int .i64 (nmR k), .int .i64 p] w fun e w' => e = .returned (.tuple #[.nilFunc, rsV (nmR k) p (erV a0)]) ∧ Grew W w' := by
  have hz0 : 0 < W.heap.size := by omega
  have h0 := (gcell hg).1 0 0 hz0
  have h1 := (gcell hg).1 1 0 hz
  rw [he] at h0
  rw [he'] at h1
  clear he he'
  have zw : 1 < w.heap.size := by have := hg.size; omega
  have zw0 : 0 < w.heap.size := by omega
  have hfn := fn_nil (fnR k)
  have HK := Lib.hid hk
  have H0 := Lib.hid h0
  have H1 := Lib.hid h1
  clear hk h0 h1
  go_enter Tryd.func16, Tryd.ntmps16
  go_wp2_with fail
  refine (readerOf_yes k HK.out (Grew.refl _)).mono ?_
  rintro e w1 ⟨rfl, g1⟩
  have kb : Blk w1 w.heap.size (csA c) 36 := (Blk.new _ _ _ _ rfl).grew g1
  have gw : Grew w w1 := ((Grew.refl w).alloc _).trans g1
  have zw1 : 1 < w1.heap.size := by have := gw.size; omega
  clear g1
  go_wp2_with fail
  refine (level_c _ _).mono ?_
  rintro e w2 ⟨rfl, rfl⟩
  go_wp2_with (first | ((with_reducible refine lw_st (w := w1) ?_ (.tmp 3) rfl _ rfl kb ?_ ?_); rotate_left 2) | fail)
  refine (hides_c _ _ _ (Grew.refl _)).mono ?_
  rintro e w3 ⟨rfl, g3⟩
  have gw3 := gw.trans g3
  have he0 : w3.cell? ⟨0, 0, none⟩ = some (erV a0) := by rw [(gcell gw3).1 0 0 zw0]; exact H0.out
  go_wp2_with fail
  go_quiet (fail)
  go_wp2
  go_ret2
  · exact ⟨rfl, (hg.trans gw3).drewN _⟩
  all_goals rfl

set_option maxRecDepth 100000 in
set_option maxHeartbeats 1000000 in
theorem find_only (c : Nat → Int) (k : Nat) (hk : k < 26) (p : Int) (hl : decide (p < lvV (nmR k)) = false) (hh : hidB c (nmR k) p = false) (ho : roB (nmR k) = true) (a0 a1 : Addr) {W w : World} (hg : Grew W w) (hz : 1 < W.heap.size) (he : W.cell? ⟨0, 0, none⟩ = some (erV a0)) (he' : W.cell? ⟨1, 0, none⟩ = some (erV a1)) :
    Calls Tryd.prog 16 #[csV c, .int .i64 (nmR k), .int .i64 p] w fun e w' => e = .returned (.tuple #[fvR (fnR k), rsV (nmR k) p (erV a1)]) ∧ Grew W w' := by
  have hz0 : 0 < W.heap.size := by omega
  have h0 := (gcell hg).1 0 0 hz0
  have h1 := (gcell hg).1 1 0 hz
  rw [he] at h0
  rw [he'] at h1
  clear he he'
  have zw : 1 < w.heap.size := by have := hg.size; omega
  have zw0 : 0 < w.heap.size := by omega
  have hfn := fn_nil (fnR k)
  have HK := Lib.hid hk
  have H0 := Lib.hid h0
  have H1 := Lib.hid h1
  clear hk h0 h1
  go_enter Tryd.func16, Tryd.ntmps16
  go_wp2_with fail
  refine (readerOf_yes k HK.out (Grew.refl _)).mono ?_
  rintro e w1 ⟨rfl, g1⟩
  have kb : Blk w1 w.heap.size (csA c) 36 := (Blk.new _ _ _ _ rfl).grew g1
  have gw : Grew w w1 := ((Grew.refl w).alloc _).trans g1
  have zw1 : 1 < w1.heap.size := by have := gw.size; omega
  clear g1
  go_wp2_with fail
  refine (level_c _ _).mono ?_
  rintro e w2 ⟨rfl, rfl⟩
  go_wp2_with (first | ((with_reducible refine lw_st (w := w1) ?_ (.tmp 3) rfl _ rfl kb ?_ ?_); rotate_left 2) | fail)
  refine (hides_c _ _ _ (Grew.refl _)).mono ?_
  rintro e w3 ⟨rfl, g3⟩
  have gw3 := gw.trans g3
  go_wp2_with fail
  refine (only_c _ _).mono ?_
  rintro e w4 ⟨rfl, rfl⟩
  have he1 : w3.cell? ⟨1, 0, none⟩ = some (erV a1) := by rw [(gcell gw3).1 1 0 zw]; exact H1.out
  go_wp2_with fail
  go_quiet (fail)
  go_wp2
  go_ret2
  · exact ⟨rfl, (hg.trans gw3).drewN _⟩
  all_goals rfl

set_option maxRecDepth 100000 in
set_option maxHeartbeats 1000000 in
theorem find_ok (c : Nat → Int) (k : Nat) (hk : k < 26) (p : Int) (hl : decide (p < lvV (nmR k)) = false) (hh : hidB c (nmR k) p = false) (ho : roB (nmR k) = false) (a0 a1 : Addr) {W w : World} (hg : Grew W w) (hz : 1 < W.heap.size) (he : W.cell? ⟨0, 0, none⟩ = some (erV a0)) (he' : W.cell? ⟨1, 0, none⟩ = some (erV a1)) :
    Calls Tryd.prog 16 #[csV c, .int .i64 (nmR k), .int .i64 p] w fun e w' => e = .returned (.tuple #[fvR (fnR k), .nilIface]) ∧ Grew W w' := by
  have hz0 : 0 < W.heap.size := by omega
  have h0 := (gcell hg).1 0 0 hz0
  have h1 := (gcell hg).1 1 0 hz
  rw [he] at h0
  rw [he'] at h1
  clear he he'
  have zw : 1 < w.heap.size := by have := hg.size; omega
  have zw0 : 0 < w.heap.size := by omega
  have hfn := fn_nil (fnR k)
  have HK := Lib.hid hk
  have H0 := Lib.hid h0
  have H1 := Lib.hid h1
  clear hk h0 h1
  go_enter Tryd.func16, Tryd.ntmps16
  go_wp2_with fail
  refine (readerOf_yes k HK.out (Grew.refl _)).mono ?_
  rintro e w1 ⟨rfl, g1⟩
  have kb : Blk w1 w.heap.size (csA c) 36 := (Blk.new _ _ _ _ rfl).grew g1
  have gw : Grew w w1 := ((Grew.refl w).alloc _).trans g1
  have zw1 : 1 < w1.heap.size := by have := gw.size; omega
  clear g1
  go_wp2_with fail
  refine (level_c _ _).mono ?_
  rintro e w2 ⟨rfl, rfl⟩
  go_wp2_with (first | ((with_reducible refine lw_st (w := w1) ?_ (.tmp 3) rfl _ rfl kb ?_ ?_); rotate_left 2) | fail)
  refine (hides_c _ _ _ (Grew.refl _)).mono ?_
  rintro e w3 ⟨rfl, g3⟩
  have gw3 := gw.trans g3
  go_wp2_with fail
  refine (only_c _ _).mono ?_
  rintro e w4 ⟨rfl, rfl⟩
  go_wp2
  go_ret2
  · exact ⟨rfl, hg.trans gw3⟩
  all_goals rfl
end Go.Proofs.YtpehfmchcjanhaaDoor
