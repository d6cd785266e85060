/-
  What is read of each register: package csr's readers.
-/
import Derived.Test.YtpehfmchcjanhaaDoorCsrA
set_option linter.unusedVariables false
set_option linter.unusedSimpArgs false
namespace Go.Proofs.YtpehfmchcjanhaaDoor
open Go.RowKit


theorem r_mstatus (c : Nat → Int) {W w : World} (hg : Grew W w) : Calls Tryd.prog 41 #[csV c] w fun e w' => e = .returned (.int .u64 (bits .or .u64 (bits .andNot .u64 (c 0) 64424509440) 42949672960)) ∧ Grew W w' := by
  go_enter Tryd.func41, Tryd.ntmps41
  go_wp2
  go_ret
  exact ⟨rfl, hg.alloc _⟩

theorem r_sstatus (c : Nat → Int) {W w : World} (hg : Grew W w) : Calls Tryd.prog 32 #[csV c] w fun e w' => e = .returned (.int .u64 (bits .or .u64 (bits .and .u64 (c 0) 786722) 8589934592)) ∧ Grew W w' := by
  go_enter Tryd.func32, Tryd.ntmps32
  go_wp2
  go_ret
  exact ⟨rfl, hg.alloc _⟩

theorem r_misa (c : Nat → Int) {W w : World} (hg : Grew W w) : Calls Tryd.prog 42 #[csV c] w fun e w' => e = .returned (.int .u64 (9223372036856090885)) ∧ Grew W w' := by
  go_enter Tryd.func42, Tryd.ntmps42
  go_wp2
  go_ret
  exact ⟨rfl, hg.alloc _⟩

theorem r_medeleg (c : Nat → Int) {W w : World} (hg : Grew W w) : Calls Tryd.prog 43 #[csV c] w fun e w' => e = .returned (.int .u64 (c 1)) ∧ Grew W w' := by
  go_enter Tryd.func43, Tryd.ntmps43
  go_wp2
  go_ret
  exact ⟨rfl, hg.alloc _⟩

theorem r_mideleg (c : Nat → Int) {W w : World} (hg : Grew W w) : Calls Tryd.prog 44 #[csV c] w fun e w' => e = .returned (.int .u64 (c 2)) ∧ Grew W w' := by
  go_enter Tryd.func44, Tryd.ntmps44
  go_wp2
  go_ret
  exact ⟨rfl, hg.alloc _⟩

theorem r_mie (c : Nat → Int) {W w : World} (hg : Grew W w) : Calls Tryd.prog 45 #[csV c] w fun e w' => e = .returned (.int .u64 (c 3)) ∧ Grew W w' := by
  go_enter Tryd.func45, Tryd.ntmps45
  go_wp2
  go_ret
  exact ⟨rfl, hg.alloc _⟩

theorem r_sie (c : Nat → Int) {W w : World} (hg : Grew W w) : Calls Tryd.prog 33 #[csV c] w fun e w' => e = .returned (.int .u64 (bits .and .u64 (c 3) (c 2))) ∧ Grew W w' := by
  go_enter Tryd.func33, Tryd.ntmps33
  go_wp2
  go_ret
  exact ⟨rfl, hg.alloc _⟩

theorem r_mip (c : Nat → Int) {W w : World} (hg : Grew W w) : Calls Tryd.prog 51 #[csV c] w fun e w' => e = .returned (.int .u64 (c 4)) ∧ Grew W w' := by
  go_enter Tryd.func51, Tryd.ntmps51
  go_wp2
  go_ret
  exact ⟨rfl, hg.alloc _⟩

theorem r_sip (c : Nat → Int) {W w : World} (hg : Grew W w) : Calls Tryd.prog 39 #[csV c] w fun e w' => e = .returned (.int .u64 (bits .and .u64 (c 4) (c 2))) ∧ Grew W w' := by
  go_enter Tryd.func39, Tryd.ntmps39
  go_wp2
  go_ret
  exact ⟨rfl, hg.alloc _⟩

theorem r_mtvec (c : Nat → Int) {W w : World} (hg : Grew W w) : Calls Tryd.prog 46 #[csV c] w fun e w' => e = .returned (.int .u64 (c 5)) ∧ Grew W w' := by
  go_enter Tryd.func46, Tryd.ntmps46
  go_wp2
  go_ret
  exact ⟨rfl, hg.alloc _⟩

theorem r_stvec (c : Nat → Int) {W w : World} (hg : Grew W w) : Calls Tryd.prog 34 #[csV c] w fun e w' => e = .returned (.int .u64 (c 10)) ∧ Grew W w' := by
  go_enter Tryd.func34, Tryd.ntmps34
  go_wp2
  go_ret
  exact ⟨rfl, hg.alloc _⟩

theorem r_mscratch (c : Nat → Int) {W w : World} (hg : Grew W w) : Calls Tryd.prog 47 #[csV c] w fun e w' => e = .returned (.int .u64 (c 6)) ∧ Grew W w' := by
  go_enter Tryd.func47, Tryd.ntmps47
  go_wp2
  go_ret
  exact ⟨rfl, hg.alloc _⟩

theorem r_sscratch (c : Nat → Int) {W w : World} (hg : Grew W w) : Calls Tryd.prog 35 #[csV c] w fun e w' => e = .returned (.int .u64 (c 11)) ∧ Grew W w' := by
  go_enter Tryd.func35, Tryd.ntmps35
  go_wp2
  go_ret
  exact ⟨rfl, hg.alloc _⟩

theorem r_mepc (c : Nat → Int) {W w : World} (hg : Grew W w) : Calls Tryd.prog 48 #[csV c] w fun e w' => e = .returned (.int .u64 (c 7)) ∧ Grew W w' := by
  go_enter Tryd.func48, Tryd.ntmps48
  go_wp2
  go_ret
  exact ⟨rfl, hg.alloc _⟩

theorem r_sepc (c : Nat → Int) {W w : World} (hg : Grew W w) : Calls Tryd.prog 36 #[csV c] w fun e w' => e = .returned (.int .u64 (c 12)) ∧ Grew W w' := by
  go_enter Tryd.func36, Tryd.ntmps36
  go_wp2
  go_ret
  exact ⟨rfl, hg.alloc _⟩

theorem r_mcause (c : Nat → Int) {W w : World} (hg : Grew W w) : Calls Tryd.prog 49 #[csV c] w fun e w' => e = .returned (.int .u64 (c 8)) ∧ Grew W w' := by
  go_enter Tryd.func49, Tryd.ntmps49
  go_wp2
  go_ret
  exact ⟨rfl, hg.alloc _⟩

theorem r_scause (c : Nat → Int) {W w : World} (hg : Grew W w) : Calls Tryd.prog 37 #[csV c] w fun e w' => e = .returned (.int .u64 (c 13)) ∧ Grew W w' := by
  go_enter Tryd.func37, Tryd.ntmps37
  go_wp2
  go_ret
  exact ⟨rfl, hg.alloc _⟩

theorem r_mtval (c : Nat → Int) {W w : World} (hg : Grew W w) : Calls Tryd.prog 50 #[csV c] w fun e w' => e = .returned (.int .u64 (c 9)) ∧ Grew W w' := by
  go_enter Tryd.func50, Tryd.ntmps50
  go_wp2
  go_ret
  exact ⟨rfl, hg.alloc _⟩

theorem r_stval (c : Nat → Int) {W w : World} (hg : Grew W w) : Calls Tryd.prog 38 #[csV c] w fun e w' => e = .returned (.int .u64 (c 14)) ∧ Grew W w' := by
  go_enter Tryd.func38, Tryd.ntmps38
  go_wp2
  go_ret
  exact ⟨rfl, hg.alloc _⟩

theorem r_satp (c : Nat → Int) {W w : World} (hg : Grew W w) : Calls Tryd.prog 40 #[csV c] w fun e w' => e = .returned (.int .u64 (c 15)) ∧ Grew W w' := by
  go_enter Tryd.func40, Tryd.ntmps40
  go_wp2
  go_ret
  exact ⟨rfl, hg.alloc _⟩

theorem r_cycle (c : Nat → Int) {W w : World} (hg : Grew W w) : Calls Tryd.prog 52 #[csV c] w fun e w' => e = .returned (.int .u64 (c 16)) ∧ Grew W w' := by
  go_enter Tryd.func52, Tryd.ntmps52
  go_wp2
  go_ret
  exact ⟨rfl, hg.alloc _⟩

theorem r_zero (c : Nat → Int) {W w : World} (hg : Grew W w) : Calls Tryd.prog 53 #[csV c] w fun e w' => e = .returned (.int .u64 (0)) ∧ Grew W w' := by
  go_enter Tryd.func53, Tryd.ntmps53
  go_wp2
  go_ret
  exact ⟨rfl, hg.alloc _⟩

end Go.Proofs.YtpehfmchcjanhaaDoor
