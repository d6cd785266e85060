/-
  Contracts of package rvc: which row does a short instruction, and Expand, Short.
-/
import Derived.Test.YtchogiglejnlhaaRvcC
import Derived.Deep.QuietTactic
import Derived.BigQuiet
import Derived.Laws.EntriesVeiled
import Derived.Deep.WholeRow
import Derived.Great.BuildSlice
namespace Go.Proofs.Ytchogiglejnlhaa
open Go.RowKit

def fv (k : FuncId) : Value := .func (.func k) #[] #[]
/-- The table of rows. -/
def tab : Array Value := #[fv 16, .nilFunc, fv 17, fv 18, .nilFunc, .nilFunc, fv 19, fv 20,
  fv 21, fv 21, fv 21, fv 22, fv 23, fv 24, fv 25, fv 25,
  fv 26, .nilFunc, fv 27, fv 28, fv 29, .nilFunc, fv 30, fv 31,
  .nilFunc, .nilFunc, .nilFunc, .nilFunc, .nilFunc, .nilFunc, .nilFunc, .nilFunc]
theorem tab_one : (tab.all fun x => x.oneCell') = true := by kernel_rfl
theorem tab_info : (Try.prog.info? 36).map (·.size) = some tab.size := by kernel_rfl

set_option maxRecDepth 100000 in
theorem rowOf_v (h : Nat) (hh : h < 65536) (v : Value) (hv : tab[fN h 1 0 * 8 + fN h 15 13]? = some v) {W w : World} (hg : Grew W w) :
    Calls Try.prog 11 #[.int .u16 h] w fun e w' => e = .returned v ∧ Grew W w' := by
  have b1 := fN_lt h 1 0 4 (by decide)
  have b2 := fN_lt h 15 13 8 (by decide)
  go_enter Try.func11, Try.ntmps11
  go_wp2_with ((with_reducible refine wpList_store_rowTo (P := Try.prog) rfl 36 (.tmp 3) (.tmp 7) rfl rfl _ tab ?_ ?_ 36 _ (heap_alloc_last _ _) tab_info ?_ ?_ ?_); (rotate_left 4); rw [World.setRow_alloc_new])
  case refine_1 => rfl
  case refine_2 => rfl
  case refine_3 => rfl
  case refine_4 => exact tab_one
  go_quiet ((go_at_call 15; exact Calls.quiet_of (hfield_d h hh _ _ (by decide) (by decide) (by decide) _)))
  go_wp2
  go_ret
  exact ⟨rfl, (hg.alloc _).drewN _⟩

/-- A row of the table: none, and the answer is 0; or a method that answers it. -/
def RowIs (h : Nat) (x : Nat) (v : Value) : Prop :=
  (v = .nilFunc ∧ x = 0) ∨ ∃ k : FuncId, v = .func (.func k) #[] #[] ∧ (∀ w : World, (callFunc k #[.int .u16 h]).run Try.prog w = .ok (.enter k #[.int .u16 h]) w) ∧ ∀ {W w : World}, Grew W w → Calls Try.prog k #[.int .u16 h] w fun e w' => e = .returned (.int .u32 (x : Nat)) ∧ Grew W w'
def Row (h a b : Nat) : Prop := ∃ v, tab[a * 8 + b]? = some v ∧ RowIs h (rowN a b h) v
theorem Row.nil {h a b : Nat} (ht : tab[a * 8 + b]? = some .nilFunc) (hr : rowN a b h = 0) : Row h a b := ⟨_, ht, .inl ⟨rfl, hr⟩⟩
theorem Row.fn {h a b x : Nat} (k : FuncId) (ht : tab[a * 8 + b]? = some (fv k)) (hr : rowN a b h = x)
    (hf : ∀ w : World, (callFunc k #[.int .u16 h]).run Try.prog w = .ok (.enter k #[.int .u16 h]) w) (hc : ∀ {W w : World}, Grew W w → Calls Try.prog k #[.int .u16 h] w fun e w' => e = .returned (.int .u32 (x : Nat)) ∧ Grew W w') : Row h a b := by
  subst hr
  exact ⟨_, ht, .inr ⟨k, rfl, hf, hc⟩⟩
theorem row00 (h : Nat) (hh : h < 65536) : Row h 0 0 := Row.fn (x := addStackN h) 16 (by kernel_rfl) (by simp [rowN]) (fun _ => by kernel_rfl) fun hg => addStack_c h hh hg
theorem row01 (h : Nat) (_hh : h < 65536) : Row h 0 1 := Row.nil (by kernel_rfl) (by simp [rowN])
theorem row02 (h : Nat) (hh : h < 65536) : Row h 0 2 := Row.fn (x := loadWordN h) 17 (by kernel_rfl) (by simp [rowN]) (fun _ => by kernel_rfl) fun hg => loadWord_c h hh hg
theorem row03 (h : Nat) (hh : h < 65536) : Row h 0 3 := Row.fn (x := loadDoubleN h) 18 (by kernel_rfl) (by simp [rowN]) (fun _ => by kernel_rfl) fun hg => loadDouble_c h hh hg
theorem row04 (h : Nat) (_hh : h < 65536) : Row h 0 4 := Row.nil (by kernel_rfl) (by simp [rowN])
theorem row05 (h : Nat) (_hh : h < 65536) : Row h 0 5 := Row.nil (by kernel_rfl) (by simp [rowN])
theorem row06 (h : Nat) (hh : h < 65536) : Row h 0 6 := Row.fn (x := storeWordN h) 19 (by kernel_rfl) (by simp [rowN]) (fun _ => by kernel_rfl) fun hg => storeWord_c h hh hg
theorem row07 (h : Nat) (hh : h < 65536) : Row h 0 7 := Row.fn (x := storeDoubleN h) 20 (by kernel_rfl) (by simp [rowN]) (fun _ => by kernel_rfl) fun hg => storeDouble_c h hh hg
theorem row10 (h : Nat) (hh : h < 65536) : Row h 1 0 := Row.fn (x := addImmN h) 21 (by kernel_rfl) (by simp [rowN]) (fun _ => by kernel_rfl) fun hg => addImm_c h hh hg
theorem row11 (h : Nat) (hh : h < 65536) : Row h 1 1 := Row.fn (x := addImmN h) 21 (by kernel_rfl) (by simp [rowN]) (fun _ => by kernel_rfl) fun hg => addImm_c h hh hg
theorem row12 (h : Nat) (hh : h < 65536) : Row h 1 2 := Row.fn (x := addImmN h) 21 (by kernel_rfl) (by simp [rowN]) (fun _ => by kernel_rfl) fun hg => addImm_c h hh hg
theorem row13 (h : Nat) (hh : h < 65536) : Row h 1 3 := Row.fn (x := upperN h) 22 (by kernel_rfl) (by simp [rowN]) (fun _ => by kernel_rfl) fun hg => upper_c h hh hg
theorem row14 (h : Nat) (hh : h < 65536) : Row h 1 4 := Row.fn (x := reckonN h) 23 (by kernel_rfl) (by simp [rowN]) (fun _ => by kernel_rfl) fun hg => reckon_c h hh hg
theorem row15 (h : Nat) (hh : h < 65536) : Row h 1 5 := Row.fn (x := jumpN h) 24 (by kernel_rfl) (by simp [rowN]) (fun _ => by kernel_rfl) fun hg => jump_c h hh hg
theorem row16 (h : Nat) (hh : h < 65536) : Row h 1 6 := Row.fn (x := branchN h) 25 (by kernel_rfl) (by simp [rowN]) (fun _ => by kernel_rfl) fun hg => branch_c h hh hg
theorem row17 (h : Nat) (hh : h < 65536) : Row h 1 7 := Row.fn (x := branchN h) 25 (by kernel_rfl) (by simp [rowN]) (fun _ => by kernel_rfl) fun hg => branch_c h hh hg
theorem row20 (h : Nat) (hh : h < 65536) : Row h 2 0 := Row.fn (x := shiftLeftN h) 26 (by kernel_rfl) (by simp [rowN]) (fun _ => by kernel_rfl) fun hg => shiftLeft_c h hh hg
theorem row21 (h : Nat) (_hh : h < 65536) : Row h 2 1 := Row.nil (by kernel_rfl) (by simp [rowN])
theorem row22 (h : Nat) (hh : h < 65536) : Row h 2 2 := Row.fn (x := unWordN h) 27 (by kernel_rfl) (by simp [rowN]) (fun _ => by kernel_rfl) fun hg => unWord_c h hh hg
theorem row23 (h : Nat) (hh : h < 65536) : Row h 2 3 := Row.fn (x := unDoubleN h) 28 (by kernel_rfl) (by simp [rowN]) (fun _ => by kernel_rfl) fun hg => unDouble_c h hh hg
theorem row24 (h : Nat) (hh : h < 65536) : Row h 2 4 := Row.fn (x := moveN h) 29 (by kernel_rfl) (by simp [rowN]) (fun _ => by kernel_rfl) fun hg => move_c h hh hg
theorem row25 (h : Nat) (_hh : h < 65536) : Row h 2 5 := Row.nil (by kernel_rfl) (by simp [rowN])
theorem row26 (h : Nat) (hh : h < 65536) : Row h 2 6 := Row.fn (x := stWordN h) 30 (by kernel_rfl) (by simp [rowN]) (fun _ => by kernel_rfl) fun hg => stWord_c h hh hg
theorem row27 (h : Nat) (hh : h < 65536) : Row h 2 7 := Row.fn (x := stDoubleN h) 31 (by kernel_rfl) (by simp [rowN]) (fun _ => by kernel_rfl) fun hg => stDouble_c h hh hg
theorem row30 (h : Nat) (_hh : h < 65536) : Row h 3 0 := Row.nil (by kernel_rfl) (by simp [rowN])
theorem row31 (h : Nat) (_hh : h < 65536) : Row h 3 1 := Row.nil (by kernel_rfl) (by simp [rowN])
theorem row32 (h : Nat) (_hh : h < 65536) : Row h 3 2 := Row.nil (by kernel_rfl) (by simp [rowN])
theorem row33 (h : Nat) (_hh : h < 65536) : Row h 3 3 := Row.nil (by kernel_rfl) (by simp [rowN])
theorem row34 (h : Nat) (_hh : h < 65536) : Row h 3 4 := Row.nil (by kernel_rfl) (by simp [rowN])
theorem row35 (h : Nat) (_hh : h < 65536) : Row h 3 5 := Row.nil (by kernel_rfl) (by simp [rowN])
theorem row36 (h : Nat) (_hh : h < 65536) : Row h 3 6 := Row.nil (by kernel_rfl) (by simp [rowN])
theorem row37 (h : Nat) (_hh : h < 65536) : Row h 3 7 := Row.nil (by kernel_rfl) (by simp [rowN])
theorem rowIs_ab (h : Nat) (hh : h < 65536) (a b : Nat) (ha : a < 4) (hb : b < 8) : Row h a b := by
  obtain rfl | rfl | rfl | rfl : a = 0 ∨ a = 1 ∨ a = 2 ∨ a = 3 := by omega
  all_goals obtain rfl | rfl | rfl | rfl | rfl | rfl | rfl | rfl : b = 0 ∨ b = 1 ∨ b = 2 ∨ b = 3 ∨ b = 4 ∨ b = 5 ∨ b = 6 ∨ b = 7 := by omega
  · exact row00 h hh
  · exact row01 h hh
  · exact row02 h hh
  · exact row03 h hh
  · exact row04 h hh
  · exact row05 h hh
  · exact row06 h hh
  · exact row07 h hh
  · exact row10 h hh
  · exact row11 h hh
  · exact row12 h hh
  · exact row13 h hh
  · exact row14 h hh
  · exact row15 h hh
  · exact row16 h hh
  · exact row17 h hh
  · exact row20 h hh
  · exact row21 h hh
  · exact row22 h hh
  · exact row23 h hh
  · exact row24 h hh
  · exact row25 h hh
  · exact row26 h hh
  · exact row27 h hh
  · exact row30 h hh
  · exact row31 h hh
  · exact row32 h hh
  · exact row33 h hh
  · exact row34 h hh
  · exact row35 h hh
  · exact row36 h hh
  · exact row37 h hh

/-- Does h stand for something? -/
def okB (h : Nat) : Bool := ((expN h : Nat) : Int) != 0
def shB (h : Nat) : Bool := ((fN h 1 0 : Nat) : Int) != 3
theorem expand_c (h : Nat) (hh : h < 65536) {W w : World} (hg : Grew W w) :
    Calls Try.prog 6 #[.int .u16 h] w fun e w' => e = .returned (.tuple #[.int .u32 (expN h : Nat), .bool (okB h)]) ∧ Grew W w' := by
  obtain ⟨v, hv, hr⟩ := rowIs_ab h hh (fN h 1 0) (fN h 15 13) (fN_lt _ _ _ _ (by decide)) (fN_lt _ _ _ _ (by decide))
  rw [show rowN (fN h 1 0) (fN h 15 13) h = expN h from rfl] at hr
  have HV := Lib.hid hv
  clear hv
  rcases hr with ⟨rfl, h0⟩ | ⟨k, rfl, hf, hk⟩
  · rw [show okB h = false by unfold okB; rw [h0]; rfl, h0]
    clear h0
    have hnil : ∀ w : World, (binOp BinOp.eql 29 .nilFunc .nilFunc).run Try.prog w = .ok (.bool true) w := fun _ => by kernel_rfl
    go_enter Try.func6, Try.ntmps6
    go_wp2_with fail
    refine (rowOf_v h hh _ HV.out hg).mono ?_
    rintro e w1 ⟨rfl, g1⟩
    go_wp2_with fail
    go_ret2
    exact ⟨rfl, g1⟩
  · have hnil : ∀ w : World, (binOp BinOp.eql 29 (.func (.func k) #[] #[]) .nilFunc).run Try.prog w = .ok (.bool false) w := fun _ => by kernel_rfl
    go_enter Try.func6, Try.ntmps6
    go_wp2_with fail
    refine (rowOf_v h hh _ HV.out hg).mono ?_
    rintro e w1 ⟨rfl, g1⟩
    go_wp2_with fail
    refine (hk g1).mono ?_
    rintro e w2 ⟨rfl, g2⟩
    go_wp2_with fail
    go_ret2
    exact ⟨rfl, g2⟩
theorem short_c (h : Nat) (hh : h < 65536) {W w : World} (hg : Grew W w) :
    Calls Try.prog 8 #[.int .u16 h] w fun e w' => e = .returned (.bool (shB h)) ∧ Grew W w' := by
  go_enter Try.func8, Try.ntmps8
  go_wp2_with fail
  refine (hfield h hh 1 0 (by decide) (by decide) (by decide) hg).mono ?_
  rintro e w1 ⟨rfl, g1⟩
  go_wp2_with fail
  go_ret
  exact ⟨rfl, g1⟩
end Go.Proofs.Ytchogiglejnlhaa
