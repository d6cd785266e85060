/-
  What must come at any rate ('heads' of the statements about package nic).
-/
import Derived.Test.YtoehdhhodidehaaRows
import Derived.Test.YtoehdhhodidehaaNcU
import Derived.Test.YtoehdhhodidehaaNcV
import Derived.WalkKit
import Derived.Outline
import Derived.Handy
import Derived.StillTailTactics
import Derived.Deep.QuietTactic
import Derived.BigQuiet
import Derived.Deep.DeepCutAuto
import Derived.Deep.RegionHeld3
import Derived.Great.BuildSlice
import Derived.Deep.WholeRow
import Derived.Lib.SliceRun
import Derived.BigFrame
set_option maxRecDepth 4000
set_option linter.unusedVariables false
set_option linter.unusedSimpArgs false
namespace Go.Proofs.Ytoehdhhodidehaa
open Go.RowKit

theorem al_nc {ops : Array Oper} {rest : List Oper} {o : Oper} {a : Act} {w : World} {Q : Exit → Act → World → Prop} (hgd : o.guard = none) (ho : o.op = .alloc 25)
    (h : ∀ w', Blk w' w.heap.size zeroN 25 → Grew w w' → wpList Try.prog ops Q rest (a.put o.dst (.pointer (some ⟨w.heap.size, 0, none⟩))) w') : wpList Try.prog ops Q (o :: rest) a w := by
  have hk := h _ (Blk.new w zeroN 25 _ rfl) ((Grew.refl w).alloc _)
  refine wpList_plain hgd fun K hK => ?_
  unfold Oper.wp execOp
  simp only [ho]
  go_simp
  exact hK _ _ hk
theorem rmInfo : (Try.prog.info? 27).map (·.size) = some 1 := by kernel_rfl
theorem st_rm {ops : Array Oper} {rest : List Oper} {o : Oper} {a : Act} {w : World} {Q : Exit → Act → World → Prop} (hgd : o.guard = none) (x y : Operand) (ho : o.op = .store 27 x y) (hd : o.dst = none) {g : Nat} {u : Value} {old : Array Value} {T : TypeId}
    (k : Blk w g old T) (hold : old.size = 1) (hx : a.eval x = .pointer (some ⟨g, 0, none⟩)) (hy : a.eval y = .agg #[u]) (hu : ∃ b n m, u = .slice b n m)
    (h : ∀ w', Blk w' g #[u] T → Only w w' g → wpList Try.prog ops Q rest a w') : wpList Try.prog ops Q (o :: rest) a w := by
  obtain ⟨b, n, m, rfl⟩ := hu
  exact wpList_store_rowTo hgd _ x y ho hd g #[.slice b n m] hx hy T old k rmInfo hold (by simp [Value.oneCell']) (h _ (Blk.setRow k) (Only.setRow _ _ _))
theorem ld_rm {ops : Array Oper} {rest : List Oper} {o : Oper} {a : Act} {w : World} {Q : Exit → Act → World → Prop} (hgd : o.guard = none) (x : Operand) (ho : o.op = .load 27 x) (d : Option Tmp) (hd : o.dst = d) {g : Nat} {u : Value} {T : TypeId}
    (k : Blk w g #[u] T) (hx : a.eval x = .pointer (some ⟨g, 0, none⟩)) (h : wpList Try.prog ops Q rest (a.put d (.agg #[u])) w) : wpList Try.prog ops Q (o :: rest) a w := by
  subst hd
  exact wpList_load_row hgd _ x ho g hx T #[u] (0, 0) _ k Try.underlying27 rfl rmInfo h
theorem lw_nc {ops : Array Oper} {rest : List Oper} {o : Oper} {a : Act} {w : World} {Q : Exit → Act → World → Prop} (hw : Region.wanted o (yielded ops a.tmps) = true) (x : Operand) (ho : o.op = .load 25 x) (d : Option Tmp) (hd : o.dst = d) {g : Nat} {c : Nat → Int} {u : Value} {T : TypeId}
    (k : Blk w g (ncA c u) T) (hx : a.eval x = .pointer (some ⟨g, 0, none⟩)) (h : wpList Try.prog ops Q rest (a.put d (ncV c u)) w) : wpList Try.prog ops Q (o :: rest) a w := by
  subst hd
  exact BigFrame.wpList_want hw fun K hK => wp_load_row _ x ho g hx T (ncA c u) (0, 0) _ k Try.underlying25 rfl ncInfo (hK _ _ h)
def hM : List Int := [1, 2, 3, 4, 5, 6]
def hc0 : Nat → Int := newC hM
def hc1 : Nat → Int := stS hc0 6 0 4 5
def hc2 : Nat → Int := stS hc1 6 12 4 2147483648
def hc3 : Nat → Int := stS hc2 6 16 4 2
def hc4 : Nat → Int := stS hc3 6 24 4 1
def hD : List Int := [32, 0, 0, 128, 0, 0, 0, 0, 14, 0, 1, 0, 0, 0, 0, 0]
def hX1 : List Int := fillV (List.replicate 64 0) 2147483648 hD
def hS : SR := sendS hc4 6 hX1
def hR : SR := recvS hS.c 6 hS.xs hS.f
theorem hD_ok : AreBytes hD := by intro x hx; simp [hD] at hx; omega
theorem hM_ok : AreBytes hM := by intro x hx; simp [hM] at hx; omega
theorem hm0 : MacOf hc0 hM := ⟨rfl, rfl, by decide, by decide⟩
theorem hm1 : MacOf hc1 hM := ⟨by kernel_rfl, by kernel_rfl, by decide +kernel, by decide +kernel⟩
theorem hm2 : MacOf hc2 hM := ⟨by kernel_rfl, by kernel_rfl, by decide +kernel, by decide +kernel⟩
theorem hm3 : MacOf hc3 hM := ⟨by kernel_rfl, by kernel_rfl, by decide +kernel, by decide +kernel⟩
theorem hm4 : MacOf hc4 hM := ⟨by kernel_rfl, by kernel_rfl, by decide +kernel, by decide +kernel⟩
theorem hmS : MacOf hS.c hM := ⟨by kernel_rfl, by kernel_rfl, by decide +kernel, by decide +kernel⟩
theorem hd_1 {a : Option Addr} {j : Nat} {w : World} (hB : Buf w (.slice a 6 j) hM) : Calls Try.prog 17 #[.slice a 6 j] w fun e w' => ∃ b i, e = .returned (.tuple #[ncV hc0 (.slice b 6 i), .int .i64 0]) ∧ Hid (Buf w' (.slice b 6 i) hM) ∧ Grew w w' := New_yes (m := hM) rfl hB
theorem hd_2 {w : World} : Calls Try.prog 17 #[.slice none 0 0] w fun e w' => e = .returned (.tuple #[ncV zeroC (.slice none 0 0), .int .i64 2]) ∧ Grew w w' := New_no (m := []) (by decide)
theorem hd_st {c : Nat → Int} (hm : MacOf c hM) (off x : Int) (h0 : 0 ≤ off) (hx : 0 ≤ x) (hb : badL c 6 off 4 = false) {a : Option Addr} {j : Nat} {w : World} (hB : Buf w (.slice a 6 j) hM) : Calls Try.prog 15 #[ncV c (.slice a 6 j), .int .u64 off, .int .i64 4, .int .u64 x] w fun e w' => ∃ b i, e = .returned (.tuple #[ncV (stS c 6 off 4 x) (.slice b 6 i), .bool true]) ∧ Hid (Buf w' (.slice b 6 i) hM) ∧ Grew w w' := by
  have := store_c (m := hM) hm (by decide) (off := off) (size := 4) h0 hx hB
  change Calls _ _ _ _ fun e w' => ∃ b i, e = .returned (.tuple #[ncV (stS c 6 off 4 x) (.slice b 6 i), .bool (!badL c 6 off 4)]) ∧ _ at this
  rw [hb] at this
  exact this
theorem hX1_len : hX1.length = 64 := by kernel_rfl
theorem hS_b : hS.b = true := by kernel_rfl
theorem hS_f : hS.f.length = 14 := by kernel_rfl
theorem hS_x : hS.xs.length = 64 := by kernel_rfl
theorem hS_10 : hS.xs.getD 10 0 = 0 := by kernel_rfl
theorem hS_12 : hS.xs.getD 12 0 = 1 := by kernel_rfl
theorem hS_1 : hS.c 1 = 1 := by kernel_rfl
theorem hS2 : (sendS hS.c 6 hS.xs).b = false := by kernel_rfl
theorem hS_l : badL hS.c 6 20 4 = false := by kernel_rfl
theorem hS_5 : ldV hS.c 6 20 4 = 1 := by kernel_rfl
theorem hR_b : hR.b = false := by kernel_rfl
theorem hR_11 : hR.c 11 = 1 := by kernel_rfl
theorem hR_k : chkB hR.c 6 = true := by kernel_rfl
theorem hR_l : lineB hR.c 6 = false := by kernel_rfl
theorem hd_fill {v u : Value} {w : World} (h : Buf w v (List.replicate 64 0)) (hu : Buf w u hD) : Calls Try.prog 32 #[.agg #[v], .int .u64 2147483648, u] w fun e w' => ∃ a k, e = .returned (.tuple #[.agg #[.slice a 64 k], .bool true]) ∧ Hid (Buf w' (.slice a 64 k) hX1) ∧ Grew w w' := by
  refine (refFill_c 2147483648 (by decide) (by decide) w h hu (by simp)).mono ?_
  rintro e w' ⟨r, rfl, hr, g⟩
  obtain ⟨a, k, rfl, q1, q2⟩ := hr.shape
  have hl : (fillV (List.replicate 64 0) 2147483648 hD).length = 64 := hX1_len
  rw [hl] at hr ⊢
  rw [show insideV (List.replicate 64 (0 : Int)).length 2147483648 (hD.length : Int) = true by kernel_rfl]
  exact ⟨a, k, rfl, hr, g⟩
theorem hd_send1 {a1 : Option Addr} {j : Nat} {a : Option Addr} {k : Nat} {w : World} (hN : Buf w (.slice a1 6 j) hM) (hX : Buf w (.slice a 64 k) hX1) : Calls Try.prog 11 #[ncV hc4 (.slice a1 6 j), .agg #[.slice a 64 k]] w fun e w' => ∃ a1 k1 a2 k2 a3 k3, e = .returned (.tuple #[ncV hS.c (.slice a1 6 k1), .agg #[.slice a2 64 k2], .slice a3 14 k3, .bool true]) ∧ Hid (Buf w' (.slice a1 6 k1) hM) ∧ Hid (Buf w' (.slice a2 64 k2) hS.xs) ∧ Hid (Buf w' (.slice a3 14 k3) hS.f) ∧ Grew w w' := by
  refine (Send_c (m := hM) hm4 hN hX (by rw [hX1_len]; decide) (by decide)).mono ?_
  rintro e w' ⟨s1, s2, s3, s4, s5, s6, s7, s8, rfl, P1, P2, P3, g⟩
  have e4 := P2.out.lenEq.1
  have e7 := P3.out.lenEq.1
  have eb : (sendS hc4 hM.length hX1).b = true := hS_b
  rw [show (sendS hc4 hM.length hX1).xs.length = 64 from hS_x] at e4
  rw [show (sendS hc4 hM.length hX1).f.length = 14 from hS_f] at e7
  subst e4
  subst e7
  rw [eb]
  exact ⟨s1, s2, s3, s5, s6, s8, rfl, P1, P2, P3, g⟩
theorem hd_send2 {a1 : Option Addr} {j : Nat} {a : Option Addr} {k : Nat} {w : World} (hN : Buf w (.slice a1 6 j) hM) (hX : Buf w (.slice a 64 k) hS.xs) : Calls Try.prog 11 #[ncV hS.c (.slice a1 6 j), .agg #[.slice a 64 k]] w fun e w' => ∃ c' a1 k1 a2 n2 k2 a3 n3 k3, e = .returned (.tuple #[ncV c' (.slice a1 6 k1), .agg #[.slice a2 n2 k2], .slice a3 n3 k3, .bool false]) ∧ Grew w w' := by
  refine (Send_c (m := hM) hmS hN hX (by rw [hS_x]; decide) (by decide)).mono ?_
  rintro e w' ⟨s1, s2, s3, s4, s5, s6, s7, s8, rfl, P1, P2, P3, g⟩
  have eb : (sendS hS.c hM.length hS.xs).b = false := hS2
  rw [eb]
  exact ⟨_, s1, s2, s3, s4, s5, s6, s7, s8, rfl, g⟩
theorem hd_load {a1 : Option Addr} {j : Nat} {w : World} (hN : Buf w (.slice a1 6 j) hM) : Calls Try.prog 13 #[ncV hS.c (.slice a1 6 j), .int .u64 20, .int .i64 4] w fun e w' => e = .returned (.tuple #[.int .u64 1, .bool true]) ∧ Grew w w' := by
  have := load_c (m := hM) hmS (off := 20) (size := 4) (by decide) hN
  rw [show ldV hS.c hM.length 20 4 = 1 from hS_5, show badL hS.c hM.length 20 4 = false from hS_l] at this
  exact this
theorem hd_recv {a1 : Option Addr} {j : Nat} {a : Option Addr} {k : Nat} {fa : Option Addr} {fk : Nat} {w : World} (hN : Buf w (.slice a1 6 j) hM) (hX : Buf w (.slice a 64 k) hS.xs) (hF : Buf w (.slice fa 14 fk) hS.f) : Calls Try.prog 27 #[ncV hS.c (.slice a1 6 j), .agg #[.slice a 64 k], .slice fa 14 fk] w fun e w' => ∃ a1 k1 a2 n2 k2, e = .returned (.tuple #[ncV hR.c (.slice a1 6 k1), .agg #[.slice a2 n2 k2], .bool false]) ∧ Grew w w' := by
  refine (Receive_c (m := hM) hmS hN hX hF (by rw [hS_x]; decide) (by decide)).mono ?_
  rintro e w' ⟨s1, s2, s3, s4, s5, rfl, P1, P2, g⟩
  have eb : (recvS hS.c hM.length hS.xs hS.f).b = false := hR_b
  rw [eb]
  exact ⟨s1, s2, s3, s4, s5, rfl, g⟩
theorem hd_chk (a : Option Addr) (k : Nat) (w : World) : Calls Try.prog 9 #[ncV hR.c (.slice a 6 k)] w fun e w' => e = .returned (.bool true) ∧ Grew w w' := by
  have := check_c hR.c a 6 k w
  rwa [hR_k] at this
theorem hd_line (a : Option Addr) (k : Nat) (w : World) : Calls Try.prog 21 #[ncV hR.c (.slice a 6 k)] w fun e w' => e = .returned (.bool false) ∧ Grew w w' := by
  have := line_c hR.c a 6 k w
  rwa [hR_l] at this
theorem Buf.at {w : World} {a : Option Addr} {n k : Nat} {xs : List Int} (h : Buf w (.slice a n k) xs) (i : Nat) (hi : i < n) (v : Int) (hv : xs.getD i 0 = v) : ∃ b off, a = some ⟨b, off, none⟩ ∧ w.cell? ⟨b, off + i, none⟩ = some (.int .u8 v) ∧ b < w.heap.size := by
  obtain ⟨a', k', e, hk, ha⟩ := h.shape
  simp only [Value.slice.injEq] at e
  obtain ⟨rfl, rfl, rfl⟩ := e
  obtain ⟨b, off, rfl, hb⟩ := ha (by rintro rfl; simp at hi)
  exact ⟨b, off, rfl, by rw [← hv]; exact hb i hi, hb.lt (by rintro rfl; simp at hi)⟩
end Go.Proofs.Ytoehdhhodidehaa
