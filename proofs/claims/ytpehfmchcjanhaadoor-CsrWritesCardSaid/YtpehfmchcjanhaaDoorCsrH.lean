/-
  The document's Write (drawbridgeref05); package csr's Check.
-/
import Derived.Test.YtpehfmchcjanhaaDoorCsrR
set_option linter.unusedVariables false
set_option linter.unusedSimpArgs false
namespace Go.Proofs.YtpehfmchcjanhaaDoor
open Go.RowKit

/-- The document's Write: is it written? what comes of it. -/
def wrR (c : Nat → Int) (n p : Int) : Bool := rdR c n p && !(n / 1024 == 3)
def refV (c : Nat → Int) (n x : Int) : Nat → Int := if (n / 256).tmod 4 = 1 then supV c n x else macV c n x

set_option maxRecDepth 100000 in
theorem refWrite_no (c : Nat → Int) (n p x : Int) (hv : ∀ {W w : World}, Grew W w → Calls Tryd.prog 19 #[csV c, .int .i64 n, .int .i64 p] w (SomeV false W)) {W w : World} (hg : Grew W w) :
    Calls Tryd.prog 12 #[csV c, .int .i64 n, .int .i64 p, .int .u64 x] w fun e w' => e = .returned (.tuple #[csV c, .bool false]) ∧ Grew W w' := by
  have hgs := hg.size
  go_enter Tryd.func12, Tryd.ntmps12
  go_wp2_with (first
    | ((with_reducible refine ld_cs rfl (.tmp 4) rfl _ rfl (Blk.new2 w _ _ _) ?_ ?_); (rotate_left 1))
    | fail)
  refine (hv (Grew.refl _)).mono ?_
  rintro e w1 ⟨v, rfl, g1'⟩
  have g1 := ((hg.alloc _).alloc _).trans g1'
  have kc1 : Blk w1 w.heap.size (csA c) 24 := (Blk.new2 w (csA c) 24 _).grew g1'
  have kz1 : Blk w1 (w.heap.size + 1) (csA fun _ => 0) 24 := (Blk.new2b w _ _ 24).grew g1'
  clear g1' hv
  go_wp2_with (first
    | ((with_reducible refine ld_cs rfl (.tmp 4) rfl _ rfl kc1 ?_ ?_); (rotate_left 1))
    | ((with_reducible refine st_csG rfl (.tmp 8) (.tmp 26) rfl rfl c kz1 (csA_size _) ?_ ?_ g1 (Nat.le_succ_of_le hgs) ?_); (rotate_left 2); intro w3 kb3 g3 _ _)
    | fail)
  · exact bodyPost_ret (v := .tuple #[csV c, .bool false]) (results_cs (p := 8) (q := 9) Tryd.results12 _ _ (w.heap.size + 1) kb3 rfl) rfl ⟨rfl, g3⟩
  all_goals rfl

set_option maxRecDepth 100000 in
theorem refWrite_only (c : Nat → Int) (n p x : Int) (ho : (n / 1024 == 3) = true) (hv : ∀ {W w : World}, Grew W w → Calls Tryd.prog 19 #[csV c, .int .i64 n, .int .i64 p] w (SomeV true W)) {W w : World} (hg : Grew W w) :
    Calls Tryd.prog 12 #[csV c, .int .i64 n, .int .i64 p, .int .u64 x] w fun e w' => e = .returned (.tuple #[csV c, .bool false]) ∧ Grew W w' := by
  have hgs := hg.size
  go_enter Tryd.func12, Tryd.ntmps12
  go_wp2_with (first
    | ((with_reducible refine ld_cs rfl (.tmp 4) rfl _ rfl (Blk.new2 w _ _ _) ?_ ?_); (rotate_left 1))
    | fail)
  refine (hv (Grew.refl _)).mono ?_
  rintro e w1 ⟨v, rfl, g1'⟩
  have g1 := ((hg.alloc _).alloc _).trans g1'
  have kc1 : Blk w1 w.heap.size (csA c) 24 := (Blk.new2 w (csA c) 24 _).grew g1'
  have kz1 : Blk w1 (w.heap.size + 1) (csA fun _ => 0) 24 := (Blk.new2b w _ _ 24).grew g1'
  clear g1' hv
  go_wp2_with (first
    | ((with_reducible refine ld_cs rfl (.tmp 4) rfl _ rfl kc1 ?_ ?_); (rotate_left 1))
    | ((with_reducible refine st_csG rfl (.tmp 8) (.tmp 26) rfl rfl c kz1 (csA_size _) ?_ ?_ g1 (Nat.le_succ_of_le hgs) ?_); (rotate_left 2); intro w3 kb3 g3 _ _)
    | fail)
  · exact bodyPost_ret (v := .tuple #[csV c, .bool false]) (results_cs (p := 8) (q := 9) Tryd.results12 _ _ (w.heap.size + 1) kb3 rfl) rfl ⟨rfl, g3⟩
  all_goals rfl

set_option maxRecDepth 100000 in
theorem refWrite_sup (c : Nat → Int) (n p x : Int) (h0 : 0 ≤ x) (h1 : x < 18446744073709551616) (ho : (n / 1024 == 3) = false) (hl : ((n / 256).tmod 4 == 1) = true) (hv : ∀ {W w : World}, Grew W w → Calls Tryd.prog 19 #[csV c, .int .i64 n, .int .i64 p] w (SomeV true W)) {W w : World} (hg : Grew W w) :
    Calls Tryd.prog 12 #[csV c, .int .i64 n, .int .i64 p, .int .u64 x] w fun e w' => e = .returned (.tuple #[csV (supV c n x), .bool true]) ∧ Grew W w' := by
  have hgs := hg.size
  go_enter Tryd.func12, Tryd.ntmps12
  go_wp2_with (first
    | ((with_reducible refine ld_cs rfl (.tmp 4) rfl _ rfl (Blk.new2 w _ _ _) ?_ ?_); (rotate_left 1))
    | fail)
  refine (hv (Grew.refl _)).mono ?_
  rintro e w1 ⟨v, rfl, g1'⟩
  have g1 := ((hg.alloc _).alloc _).trans g1'
  have kc1 : Blk w1 w.heap.size (csA c) 24 := (Blk.new2 w (csA c) 24 _).grew g1'
  have kz1 : Blk w1 (w.heap.size + 1) (csA fun _ => 0) 24 := (Blk.new2b w _ _ 24).grew g1'
  clear g1' hv
  go_wp2_with (first
    | ((with_reducible refine ld_cs rfl (.tmp 4) rfl _ rfl kc1 ?_ ?_); (rotate_left 1))
    | fail)
  refine (sup_all c n x h0 h1 (Grew.refl w1)).mono ?_
  rintro e w2 ⟨rfl, g2'⟩
  have g2 := g1.trans g2'
  have kz2 := kz1.grew g2'
  go_wp2_with (first
    | ((with_reducible refine st_csG rfl (.tmp 8) (.tmp 34) rfl rfl (supV c n x) kz2 (csA_size _) ?_ ?_ g2 (Nat.le_succ_of_le hgs) ?_); (rotate_left 2); intro w3 kb3 g3 _ _)
    | fail)
  · exact bodyPost_ret (v := .tuple #[csV (supV c n x), .bool true]) (results_cs (p := 8) (q := 9) Tryd.results12 _ _ (w.heap.size + 1) kb3 rfl) rfl ⟨rfl, g3⟩
  all_goals rfl

set_option maxRecDepth 100000 in
theorem refWrite_mac (c : Nat → Int) (n p x : Int) (h0 : 0 ≤ x) (h1 : x < 18446744073709551616) (ho : (n / 1024 == 3) = false) (hl : ((n / 256).tmod 4 == 1) = false) (hv : ∀ {W w : World}, Grew W w → Calls Tryd.prog 19 #[csV c, .int .i64 n, .int .i64 p] w (SomeV true W)) {W w : World} (hg : Grew W w) :
    Calls Tryd.prog 12 #[csV c, .int .i64 n, .int .i64 p, .int .u64 x] w fun e w' => e = .returned (.tuple #[csV (macV c n x), .bool true]) ∧ Grew W w' := by
  have hgs := hg.size
  go_enter Tryd.func12, Tryd.ntmps12
  go_wp2_with (first
    | ((with_reducible refine ld_cs rfl (.tmp 4) rfl _ rfl (Blk.new2 w _ _ _) ?_ ?_); (rotate_left 1))
    | fail)
  refine (hv (Grew.refl _)).mono ?_
  rintro e w1 ⟨v, rfl, g1'⟩
  have g1 := ((hg.alloc _).alloc _).trans g1'
  have kc1 : Blk w1 w.heap.size (csA c) 24 := (Blk.new2 w (csA c) 24 _).grew g1'
  have kz1 : Blk w1 (w.heap.size + 1) (csA fun _ => 0) 24 := (Blk.new2b w _ _ 24).grew g1'
  clear g1' hv
  go_wp2_with (first
    | ((with_reducible refine ld_cs rfl (.tmp 4) rfl _ rfl kc1 ?_ ?_); (rotate_left 1))
    | fail)
  refine (mac_all c n x h0 h1 (Grew.refl w1)).mono ?_
  rintro e w2 ⟨rfl, g2'⟩
  have g2 := g1.trans g2'
  have kz2 := kz1.grew g2'
  go_wp2_with (first
    | ((with_reducible refine st_csG rfl (.tmp 8) (.tmp 38) rfl rfl (macV c n x) kz2 (csA_size _) ?_ ?_ g2 (Nat.le_succ_of_le hgs) ?_); (rotate_left 2); intro w3 kb3 g3 _ _)
    | fail)
  · exact bodyPost_ret (v := .tuple #[csV (macV c n x), .bool true]) (results_cs (p := 8) (q := 9) Tryd.results12 _ _ (w.heap.size + 1) kb3 rfl) rfl ⟨rfl, g3⟩
  all_goals rfl


theorem refWrite_yes (c : Nat → Int) (c0 : 0 ≤ c 0) (n p x : Int) (h0 : 0 ≤ x) (h1 : x < 18446744073709551616) (hb : wrR c n p = true) {W w : World} (hg : Grew W w) :
    Calls Tryd.prog 12 #[csV c, .int .i64 n, .int .i64 p, .int .u64 x] w fun e w' => e = .returned (.tuple #[csV (refV c n x), .bool true]) ∧ Grew W w' := by
  simp only [wrR, Bool.and_eq_true, Bool.not_eq_true'] at hb
  have hv : ∀ {W w : World}, Grew W w → Calls Tryd.prog 19 #[csV c, .int .i64 n, .int .i64 p] w (SomeV true W) := fun hg => by
    have := refRead_c c c0 n p hg
    rwa [hb.1] at this
  unfold refV
  cases hl : (n / 256).tmod 4 == 1
  · rw [if_neg (by simpa using hl)]; exact refWrite_mac c n p x h0 h1 hb.2 hl hv hg
  · rw [if_pos (by simpa using hl)]; exact refWrite_sup c n p x h0 h1 hb.2 hl hv hg
theorem refWrite_not (c : Nat → Int) (c0 : 0 ≤ c 0) (n p x : Int) (hb : wrR c n p = false) {W w : World} (hg : Grew W w) :
    Calls Tryd.prog 12 #[csV c, .int .i64 n, .int .i64 p, .int .u64 x] w fun e w' => e = .returned (.tuple #[csV c, .bool false]) ∧ Grew W w' := by
  cases hr : rdR c n p
  · exact refWrite_no c n p x (fun hg => by have := refRead_c c c0 n p hg; rwa [hr] at this) hg
  · rw [wrR, hr, Bool.true_and, Bool.not_eq_false'] at hb
    exact refWrite_only c n p x hb (fun hg => by have := refRead_c c c0 n p hg; rwa [hr] at this) hg

/-! ### Check -/
theorem quiet_eq {P : Program} {f : FuncId} {args : Array Value} {w : World} {n : Nat} {v : Value}
    (h : Calls P f args (w.drewN n) fun e w' => e = .returned v ∧ w.drewN n = w') : Calls P f args (w.drewN n) fun e w'' => e = .returned v ∧ ∃ m, w'' = w.drewN m :=
  h.mono fun _ _ ⟨he, hm⟩ => ⟨he, n, hm.symm⟩

/-- Is each register as it could be written? -/
def chkB (c : Nat → Int) : Bool := (keptV (c 0) == c 0) && ((bits .andNot .u64 (c 1) 46079 == 0) && ((bits .andNot .u64 (c 2) 546 == 0) && ((bits .andNot .u64 (c 3) 2730 == 0) && ((bits .andNot .u64 (c 4) 2730 == 0) && ((bits .andNot .u64 (c 5) 18446744073709551613 == 0) && ((bits .andNot .u64 (c 10) 18446744073709551613 == 0) && ((bits .andNot .u64 (c 7) 18446744073709551614 == 0) && ((bits .andNot .u64 (c 12) 18446744073709551614 == 0) && ((satpB (c 15)))))))))))
set_option maxRecDepth 100000 in
theorem check_0 (c : Nat → Int) (hc : csOk c) (e0 : (keptV (c 0) == c 0) = false) {W w : World} (hg : Grew W w) : Calls Tryd.prog 8 #[csV c] w fun e w' => e = .returned (.bool false) ∧ Grew W w' := by
  obtain ⟨s0, s1⟩ := hc 15
  clear hc
  go_enter Tryd.func8, Tryd.ntmps8
  go_wp2_with fail
  go_quiet ((first | (go_at_call 13; exact quiet_eq (kept_c _ _)) | (go_at_call 14; exact quiet_eq (within_c _ _ _)) | (go_at_call 15; exact quiet_eq (satp_c _ s0 s1 _))))
  go_wp2
  go_ret
  exact ⟨rfl, (hg.alloc _).drewN _⟩
set_option maxRecDepth 100000 in
theorem check_1 (c : Nat → Int) (hc : csOk c) (e0 : (keptV (c 0) == c 0) = true) (e1 : (bits .andNot .u64 (c 1) 46079 == 0) = false) {W w : World} (hg : Grew W w) : Calls Tryd.prog 8 #[csV c] w fun e w' => e = .returned (.bool false) ∧ Grew W w' := by
  obtain ⟨s0, s1⟩ := hc 15
  clear hc
  go_enter Tryd.func8, Tryd.ntmps8
  go_wp2_with fail
  go_quiet ((first | (go_at_call 13; exact quiet_eq (kept_c _ _)) | (go_at_call 14; exact quiet_eq (within_c _ _ _)) | (go_at_call 15; exact quiet_eq (satp_c _ s0 s1 _))))
  go_wp2
  go_ret
  exact ⟨rfl, (hg.alloc _).drewN _⟩
set_option maxRecDepth 100000 in
theorem check_2 (c : Nat → Int) (hc : csOk c) (e0 : (keptV (c 0) == c 0) = true) (e1 : (bits .andNot .u64 (c 1) 46079 == 0) = true) (e2 : (bits .andNot .u64 (c 2) 546 == 0) = false) {W w : World} (hg : Grew W w) : Calls Tryd.prog 8 #[csV c] w fun e w' => e = .returned (.bool false) ∧ Grew W w' := by
  obtain ⟨s0, s1⟩ := hc 15
  clear hc
  go_enter Tryd.func8, Tryd.ntmps8
  go_wp2_with fail
  go_quiet ((first | (go_at_call 13; exact quiet_eq (kept_c _ _)) | (go_at_call 14; exact quiet_eq (within_c _ _ _)) | (go_at_call 15; exact quiet_eq (satp_c _ s0 s1 _))))
  go_wp2
  go_ret
  exact ⟨rfl, (hg.alloc _).drewN _⟩
set_option maxRecDepth 100000 in
theorem check_3 (c : Nat → Int) (hc : csOk c) (e0 : (keptV (c 0) == c 0) = true) (e1 : (bits .andNot .u64 (c 1) 46079 == 0) = true) (e2 : (bits .andNot .u64 (c 2) 546 == 0) = true) (e3 : (bits .andNot .u64 (c 3) 2730 == 0) = false) {W w : World} (hg : Grew W w) : Calls Tryd.prog 8 #[csV c] w fun e w' => e = .returned (.bool false) ∧ Grew W w' := by
  obtain ⟨s0, s1⟩ := hc 15
  clear hc
  go_enter Tryd.func8, Tryd.ntmps8
  go_wp2_with fail
  go_quiet ((first | (go_at_call 13; exact quiet_eq (kept_c _ _)) | (go_at_call 14; exact quiet_eq (within_c _ _ _)) | (go_at_call 15; exact quiet_eq (satp_c _ s0 s1 _))))
  go_wp2
  go_ret
  exact ⟨rfl, (hg.alloc _).drewN _⟩
set_option maxRecDepth 100000 in
theorem check_4 (c : Nat → Int) (hc : csOk c) (e0 : (keptV (c 0) == c 0) = true) (e1 : (bits .andNot .u64 (c 1) 46079 == 0) = true) (e2 : (bits .andNot .u64 (c 2) 546 == 0) = true) (e3 : (bits .andNot .u64 (c 3) 2730 == 0) = true) (e4 : (bits .andNot .u64 (c 4) 2730 == 0) = false) {W w : World} (hg : Grew W w) : Calls Tryd.prog 8 #[csV c] w fun e w' => e = .returned (.bool false) ∧ Grew W w' := by
  obtain ⟨s0, s1⟩ := hc 15
  clear hc
  go_enter Tryd.func8, Tryd.ntmps8
  go_wp2_with fail
  go_quiet ((first | (go_at_call 13; exact quiet_eq (kept_c _ _)) | (go_at_call 14; exact quiet_eq (within_c _ _ _)) | (go_at_call 15; exact quiet_eq (satp_c _ s0 s1 _))))
  go_wp2
  go_ret
  exact ⟨rfl, (hg.alloc _).drewN _⟩
set_option maxRecDepth 100000 in
theorem check_5 (c : Nat → Int) (hc : csOk c) (e0 : (keptV (c 0) == c 0) = true) (e1 : (bits .andNot .u64 (c 1) 46079 == 0) = true) (e2 : (bits .andNot .u64 (c 2) 546 == 0) = true) (e3 : (bits .andNot .u64 (c 3) 2730 == 0) = true) (e4 : (bits .andNot .u64 (c 4) 2730 == 0) = true) (e5 : (bits .andNot .u64 (c 5) 18446744073709551613 == 0) = false) {W w : World} (hg : Grew W w) : Calls Tryd.prog 8 #[csV c] w fun e w' => e = .returned (.bool false) ∧ Grew W w' := by
  obtain ⟨s0, s1⟩ := hc 15
  clear hc
  go_enter Tryd.func8, Tryd.ntmps8
  go_wp2_with fail
  go_quiet ((first | (go_at_call 13; exact quiet_eq (kept_c _ _)) | (go_at_call 14; exact quiet_eq (within_c _ _ _)) | (go_at_call 15; exact quiet_eq (satp_c _ s0 s1 _))))
  go_wp2
  go_ret
  exact ⟨rfl, (hg.alloc _).drewN _⟩
set_option maxRecDepth 100000 in
theorem check_6 (c : Nat → Int) (hc : csOk c) (e0 : (keptV (c 0) == c 0) = true) (e1 : (bits .andNot .u64 (c 1) 46079 == 0) = true) (e2 : (bits .andNot .u64 (c 2) 546 == 0) = true) (e3 : (bits .andNot .u64 (c 3) 2730 == 0) = true) (e4 : (bits .andNot .u64 (c 4) 2730 == 0) = true) (e5 : (bits .andNot .u64 (c 5) 18446744073709551613 == 0) = true) (e6 : (bits .andNot .u64 (c 10) 18446744073709551613 == 0) = false) {W w : World} (hg : Grew W w) : Calls Tryd.prog 8 #[csV c] w fun e w' => e = .returned (.bool false) ∧ Grew W w' := by
  obtain ⟨s0, s1⟩ := hc 15
  clear hc
  go_enter Tryd.func8, Tryd.ntmps8
  go_wp2_with fail
  go_quiet ((first | (go_at_call 13; exact quiet_eq (kept_c _ _)) | (go_at_call 14; exact quiet_eq (within_c _ _ _)) | (go_at_call 15; exact quiet_eq (satp_c _ s0 s1 _))))
  go_wp2
  go_ret
  exact ⟨rfl, (hg.alloc _).drewN _⟩
set_option maxRecDepth 100000 in
theorem check_7 (c : Nat → Int) (hc : csOk c) (e0 : (keptV (c 0) == c 0) = true) (e1 : (bits .andNot .u64 (c 1) 46079 == 0) = true) (e2 : (bits .andNot .u64 (c 2) 546 == 0) = true) (e3 : (bits .andNot .u64 (c 3) 2730 == 0) = true) (e4 : (bits .andNot .u64 (c 4) 2730 == 0) = true) (e5 : (bits .andNot .u64 (c 5) 18446744073709551613 == 0) = true) (e6 : (bits .andNot .u64 (c 10) 18446744073709551613 == 0) = true) (e7 : (bits .andNot .u64 (c 7) 18446744073709551614 == 0) = false) {W w : World} (hg : Grew W w) : Calls Tryd.prog 8 #[csV c] w fun e w' => e = .returned (.bool false) ∧ Grew W w' := by
  obtain ⟨s0, s1⟩ := hc 15
  clear hc
  go_enter Tryd.func8, Tryd.ntmps8
  go_wp2_with fail
  go_quiet ((first | (go_at_call 13; exact quiet_eq (kept_c _ _)) | (go_at_call 14; exact quiet_eq (within_c _ _ _)) | (go_at_call 15; exact quiet_eq (satp_c _ s0 s1 _))))
  go_wp2
  go_ret
  exact ⟨rfl, (hg.alloc _).drewN _⟩
set_option maxRecDepth 100000 in
theorem check_8 (c : Nat → Int) (hc : csOk c) (e0 : (keptV (c 0) == c 0) = true) (e1 : (bits .andNot .u64 (c 1) 46079 == 0) = true) (e2 : (bits .andNot .u64 (c 2) 546 == 0) = true) (e3 : (bits .andNot .u64 (c 3) 2730 == 0) = true) (e4 : (bits .andNot .u64 (c 4) 2730 == 0) = true) (e5 : (bits .andNot .u64 (c 5) 18446744073709551613 == 0) = true) (e6 : (bits .andNot .u64 (c 10) 18446744073709551613 == 0) = true) (e7 : (bits .andNot .u64 (c 7) 18446744073709551614 == 0) = true) (e8 : (bits .andNot .u64 (c 12) 18446744073709551614 == 0) = false) {W w : World} (hg : Grew W w) : Calls Tryd.prog 8 #[csV c] w fun e w' => e = .returned (.bool false) ∧ Grew W w' := by
  obtain ⟨s0, s1⟩ := hc 15
  clear hc
  go_enter Tryd.func8, Tryd.ntmps8
  go_wp2_with fail
  go_quiet ((first | (go_at_call 13; exact quiet_eq (kept_c _ _)) | (go_at_call 14; exact quiet_eq (within_c _ _ _)) | (go_at_call 15; exact quiet_eq (satp_c _ s0 s1 _))))
  go_wp2
  go_ret
  exact ⟨rfl, (hg.alloc _).drewN _⟩
set_option maxRecDepth 100000 in
theorem check_9 (c : Nat → Int) (hc : csOk c) (e0 : (keptV (c 0) == c 0) = true) (e1 : (bits .andNot .u64 (c 1) 46079 == 0) = true) (e2 : (bits .andNot .u64 (c 2) 546 == 0) = true) (e3 : (bits .andNot .u64 (c 3) 2730 == 0) = true) (e4 : (bits .andNot .u64 (c 4) 2730 == 0) = true) (e5 : (bits .andNot .u64 (c 5) 18446744073709551613 == 0) = true) (e6 : (bits .andNot .u64 (c 10) 18446744073709551613 == 0) = true) (e7 : (bits .andNot .u64 (c 7) 18446744073709551614 == 0) = true) (e8 : (bits .andNot .u64 (c 12) 18446744073709551614 == 0) = true) (e9 : (satpB (c 15)) = false) {W w : World} (hg : Grew W w) : Calls Tryd.prog 8 #[csV c] w fun e w' => e = .returned (.bool false) ∧ Grew W w' := by
  obtain ⟨s0, s1⟩ := hc 15
  clear hc
  go_enter Tryd.func8, Tryd.ntmps8
  go_wp2_with fail
  go_quiet ((first | (go_at_call 13; exact quiet_eq (kept_c _ _)) | (go_at_call 14; exact quiet_eq (within_c _ _ _)) | (go_at_call 15; exact quiet_eq (satp_c _ s0 s1 _))))
  go_wp2
  go_ret
  exact ⟨rfl, (hg.alloc _).drewN _⟩
set_option maxRecDepth 100000 in
theorem check_10 (c : Nat → Int) (hc : csOk c) (e0 : (keptV (c 0) == c 0) = true) (e1 : (bits .andNot .u64 (c 1) 46079 == 0) = true) (e2 : (bits .andNot .u64 (c 2) 546 == 0) = true) (e3 : (bits .andNot .u64 (c 3) 2730 == 0) = true) (e4 : (bits .andNot .u64 (c 4) 2730 == 0) = true) (e5 : (bits .andNot .u64 (c 5) 18446744073709551613 == 0) = true) (e6 : (bits .andNot .u64 (c 10) 18446744073709551613 == 0) = true) (e7 : (bits .andNot .u64 (c 7) 18446744073709551614 == 0) = true) (e8 : (bits .andNot .u64 (c 12) 18446744073709551614 == 0) = true) (e9 : (satpB (c 15)) = true) {W w : World} (hg : Grew W w) : Calls Tryd.prog 8 #[csV c] w fun e w' => e = .returned (.bool true) ∧ Grew W w' := by
  obtain ⟨s0, s1⟩ := hc 15
  clear hc
  go_enter Tryd.func8, Tryd.ntmps8
  go_wp2_with fail
  go_quiet ((first | (go_at_call 13; exact quiet_eq (kept_c _ _)) | (go_at_call 14; exact quiet_eq (within_c _ _ _)) | (go_at_call 15; exact quiet_eq (satp_c _ s0 s1 _))))
  go_wp2
  go_ret
  exact ⟨rfl, (hg.alloc _).drewN _⟩

theorem check_c (c : Nat → Int) (hc : csOk c) {W w : World} (hg : Grew W w) : Calls Tryd.prog 8 #[csV c] w fun e w' => e = .returned (.bool (chkB c)) ∧ Grew W w' := by
  unfold chkB
  cases e0 : (keptV (c 0) == c 0 : Bool)
  · simpa using check_0 c hc e0 hg
  cases e1 : (bits .andNot .u64 (c 1) 46079 == 0 : Bool)
  · simpa using check_1 c hc e0 e1 hg
  cases e2 : (bits .andNot .u64 (c 2) 546 == 0 : Bool)
  · simpa using check_2 c hc e0 e1 e2 hg
  cases e3 : (bits .andNot .u64 (c 3) 2730 == 0 : Bool)
  · simpa using check_3 c hc e0 e1 e2 e3 hg
  cases e4 : (bits .andNot .u64 (c 4) 2730 == 0 : Bool)
  · simpa using check_4 c hc e0 e1 e2 e3 e4 hg
  cases e5 : (bits .andNot .u64 (c 5) 18446744073709551613 == 0 : Bool)
  · simpa using check_5 c hc e0 e1 e2 e3 e4 e5 hg
  cases e6 : (bits .andNot .u64 (c 10) 18446744073709551613 == 0 : Bool)
  · simpa using check_6 c hc e0 e1 e2 e3 e4 e5 e6 hg
  cases e7 : (bits .andNot .u64 (c 7) 18446744073709551614 == 0 : Bool)
  · simpa using check_7 c hc e0 e1 e2 e3 e4 e5 e6 e7 hg
  cases e8 : (bits .andNot .u64 (c 12) 18446744073709551614 == 0 : Bool)
  · simpa using check_8 c hc e0 e1 e2 e3 e4 e5 e6 e7 e8 hg
  cases e9 : (satpB (c 15) : Bool)
  · simpa using check_9 c hc e0 e1 e2 e3 e4 e5 e6 e7 e8 e9 hg
  simpa using check_10 c hc e0 e1 e2 e3 e4 e5 e6 e7 e8 e9 hg
end Go.Proofs.YtpehfmchcjanhaaDoor
