/-
  Contracts of package sv39: who asks, and whether it may; what is refused.
-/
import Derived.Test.YtocmningcpcmiaaSvJ
import Derived.Test.YtocmningcpcmiaaBuf
import Derived.Test.YtocmningcpcmiaaSvD
import Derived.Lib.SliceRun
set_option linter.unusedVariables false
set_option linter.unusedSimpArgs false
namespace Go.Proofs.Ytocmningcpcmiaa
open Go.RowKit

/-! ### Who asks -/
/-- api's asker: status, privilege, kind. -/
theorem allows_c (status priv kind b : Int) (hs0 : 0 ≤ status) (hs1 : status < 18446744073709551616) {W w : World} (g : Grew W w) :
    Calls Try.prog 56 #[.agg #[.int .u64 status, .int .i64 priv, .int .i64 kind], .int .i64 b] w fun e w' => e = .returned (.bool (fieldV status b b == 1)) ∧ Grew W w' := by
  go_enter Try.func56, Try.ntmps56
  go_wp2_with fail
  refine (fld _ _ _ hs0 hs1 (g.alloc _)).mono ?_
  rintro e w1 ⟨rfl, g1⟩
  go_wp2_with fail
  go_ret
  exact ⟨rfl, g1⟩
theorem not_bit (x b : Int) : (!(fieldV x b b == 0)) = (fieldV x b b == 1) := by
  rcases bit_two x b with h | h <;> rw [h] <;> rfl
/-- The arm of a call beside the asker's block, which lies in w0. -/
theorem enters_c (status priv kind x : Int) (hs0 : 0 ≤ status) (hs1 : status < 18446744073709551616) (hx0 : 0 ≤ x) (hx1 : x < 18446744073709551616) {W w : World} (g : Grew W w) :
    Calls Try.prog 47 #[.agg #[.int .u64 status, .int .i64 priv, .int .i64 kind], .int .u64 x] w fun e w' => e = .returned (.bool (userV x status priv kind)) ∧ Grew W w' := by
  have hv : userV x status priv kind = if priv < 1 then fieldV x 4 4 == 1 else !(fieldV x 4 4 == 1) || (!decide (kind = 0) && (fieldV status 18 18 == 1)) := by unfold userV; rw [not_bit]
  have HV := Lib.hid hv
  have hh := fun W w (g : Grew W w) => has_c x 4 hx0 hx1 g
  have ha := fun W w (g : Grew W w) => allows_c status priv kind 18 hs0 hs1 g
  generalize (fieldV x 4 4 == 1) = U at *
  generalize (fieldV status 18 18 == 1) = T at *
  have HH := Lib.hid hh
  have HA := Lib.hid ha
  clear hh ha hv
  by_cases hp : priv < 1
  · go_enter Try.func47, Try.ntmps47
    go_wp2_with fail
    refine (HH.out _ _ (g.alloc _)).mono ?_
    rintro e w1 ⟨rfl, g1⟩
    go_wp2_with fail
    go_ret
    exact ⟨by rw [HV.out, if_pos hp]; rfl, g1⟩
  have hp' : 1 ≤ priv := by omega
  have hB0 : Blk (w.alloc (.cells #[.int .u64 status, .int .i64 priv, .int .i64 kind] 45)) w.heap.size #[.int .u64 status, .int .i64 priv, .int .i64 kind] 45 := Blk.new _ _ _ _ rfl
  have g0 : Grew W (w.alloc (.cells #[.int .u64 status, .int .i64 priv, .int .i64 kind] 45)) := g.alloc _
  by_cases hk : kind = 0
  · subst hk
    have hv' : userV x status priv 0 = !U := by rw [HV.out, if_neg hp]; simp
    have HV' := Lib.hid hv'
    clear hv' HV
    cases U
    all_goals
      go_enter Try.func47, Try.ntmps47
      go_upto_region 3 with fail
      generalize (w.alloc (.cells #[.int .u64 status, .int .i64 priv, .int .i64 0] 45)) = w0 at *
      generalize w.heap.size = D at *
      have gz : Grew w0 w0 := Grew.refl w0
      go_wp2_with (first | (go_at_call 46; refine (HH.out w0 _ (by assumption)).mono ?_; rintro e' w' ⟨rfl, g'⟩; have c0' := (hB0.grew g').cell 0; have c1' := (hB0.grew g').cell 1; have c2' := (hB0.grew g').cell 2) | (go_at_call 56; refine (HA.out w0 _ (by assumption)).mono ?_; rintro e' w' ⟨rfl, g'⟩))
      go_ret
      exact ⟨by rw [HV'.out]; rfl, g0.trans (by assumption)⟩
  · have hk' : (kind != 0) = true := by simpa using hk
    have hv' : userV x status priv kind = (!U || T) := by rw [HV.out, if_neg hp]; simp [hk]
    have HV' := Lib.hid hv'
    clear hv' HV hk
    cases U <;> cases T
    all_goals
      go_enter Try.func47, Try.ntmps47
      go_upto_region 3 with fail
      generalize (w.alloc (.cells #[.int .u64 status, .int .i64 priv, .int .i64 kind] 45)) = w0 at *
      generalize w.heap.size = D at *
      have gz : Grew w0 w0 := Grew.refl w0
      go_wp2_with (first | (go_at_call 46; refine (HH.out w0 _ (by assumption)).mono ?_; rintro e' w' ⟨rfl, g'⟩; have c0' := (hB0.grew g').cell 0; have c1' := (hB0.grew g').cell 1; have c2' := (hB0.grew g').cell 2) | (go_at_call 56; refine (HA.out w0 _ (by assumption)).mono ?_; rintro e' w' ⟨rfl, g'⟩))
      go_ret
      exact ⟨by rw [HV'.out]; rfl, g0.trans (by assumption)⟩
theorem does_c (status priv kind x : Int) (hs0 : 0 ≤ status) (hs1 : status < 18446744073709551616) (hx0 : 0 ≤ x) (hx1 : x < 18446744073709551616) {W w : World} (g : Grew W w) :
    Calls Try.prog 48 #[.agg #[.int .u64 status, .int .i64 priv, .int .i64 kind], .int .u64 x] w fun e w' => e = .returned (.bool (permV x status kind)) ∧ Grew W w' := by
  have hh := fun W b w (g : Grew W w) => has_c x b hx0 hx1 g
  have ha := fun W w (g : Grew W w) => allows_c status priv kind 19 hs0 hs1 g
  by_cases hk : kind = 0
  · have HV := Lib.hid (show permV x status kind = (fieldV x 3 3 == 1) by unfold permV; rw [if_pos hk])
    subst hk
    have HH := Lib.hid hh
    clear hh ha
    go_enter Try.func48, Try.ntmps48
    go_wp2_with fail
    refine (HH.out _ _ _ (g.alloc _)).mono ?_
    rintro e w1 ⟨rfl, g1⟩
    go_wp2_with fail
    go_ret
    exact ⟨by rw [HV.out]; rfl, g1⟩
  by_cases h2 : kind = 2
  · have HV := Lib.hid (show permV x status kind = (fieldV x 2 2 == 1) by unfold permV; rw [if_neg hk, if_pos h2])
    subst h2
    have HH := Lib.hid hh
    clear hh ha hk
    go_enter Try.func48, Try.ntmps48
    go_wp2_with fail
    refine (HH.out _ _ _ (g.alloc _)).mono ?_
    rintro e w1 ⟨rfl, g1⟩
    go_wp2_with fail
    go_ret
    exact ⟨by rw [HV.out]; rfl, g1⟩
  have HV := Lib.hid (show permV x status kind = (fieldV x 1 1 == 1 || (fieldV x 3 3 == 1 && fieldV status 19 19 == 1)) by unfold permV; rw [if_neg hk, if_neg h2])
  have e0 : (kind == 0) = false := by simpa using hk
  have e2 : (kind == 2) = false := by simpa using h2
  generalize (fieldV status 19 19 == 1) = T at *
  have HH := Lib.hid hh
  have HA := Lib.hid ha
  have hB0 : Blk (w.alloc (.cells #[.int .u64 status, .int .i64 priv, .int .i64 kind] 45)) w.heap.size #[.int .u64 status, .int .i64 priv, .int .i64 kind] 45 := Blk.new _ _ _ _ rfl
  have g0 : Grew W (w.alloc (.cells #[.int .u64 status, .int .i64 priv, .int .i64 kind] 45)) := g.alloc _
  clear hh ha hk h2
  cases h1 : (fieldV x 1 1 == 1) <;> cases h3 : (fieldV x 3 3 == 1) <;> cases T
  all_goals
    go_enter Try.func48, Try.ntmps48
    go_upto_region 6 with fail
    generalize (w.alloc (.cells #[.int .u64 status, .int .i64 priv, .int .i64 kind] 45)) = w0 at *
    generalize w.heap.size = D at *
    have gz : Grew w0 w0 := Grew.refl w0
    go_wp2_with (first | (go_at_call 46; refine (HH.out w0 _ _ (by assumption)).mono ?_; rintro e' w' ⟨rfl, g'⟩; have c0' := (hB0.grew g').cell 0; have c1' := (hB0.grew g').cell 1; have c2' := (hB0.grew g').cell 2) | (go_at_call 56; refine (HA.out w0 _ (by assumption)).mono ?_; rintro e' w' ⟨rfl, g'⟩))
    go_ret
    exact ⟨by rw [HV.out, h1, h3]; rfl, g0.trans (by assumption)⟩
theorem may_c (status priv kind x : Int) (hs0 : 0 ≤ status) (hs1 : status < 18446744073709551616) (hx0 : 0 ≤ x) (hx1 : x < 18446744073709551616) {W w : World} (g : Grew W w) :
    Calls Try.prog 26 #[.agg #[.int .u64 status, .int .i64 priv, .int .i64 kind], .int .u64 x] w fun e w' => e = .returned (.bool (userV x status priv kind && permV x status kind)) ∧ Grew W w' := by
  have hE := fun W w (g : Grew W w) => enters_c status priv kind x hs0 hs1 hx0 hx1 g
  have hD := fun W w (g : Grew W w) => does_c status priv kind x hs0 hs1 hx0 hx1 g
  generalize userV x status priv kind = U at *
  generalize permV x status kind = P at *
  have HE := Lib.hid hE
  have HD := Lib.hid hD
  have hB0 : Blk (w.alloc (.cells #[.int .u64 status, .int .i64 priv, .int .i64 kind] 45)) w.heap.size #[.int .u64 status, .int .i64 priv, .int .i64 kind] 45 := Blk.new _ _ _ _ rfl
  have g0 : Grew W (w.alloc (.cells #[.int .u64 status, .int .i64 priv, .int .i64 kind] 45)) := g.alloc _
  clear hE hD
  cases U
  all_goals
    go_enter Try.func26, Try.ntmps26
    go_upto_region 1 with fail
    generalize (w.alloc (.cells #[.int .u64 status, .int .i64 priv, .int .i64 kind] 45)) = w0 at *
    generalize w.heap.size = D at *
    have gz : Grew w0 w0 := Grew.refl w0
    have c0 := hB0.cell 0
    have c1 := hB0.cell 1
    have c2 := hB0.cell 2
    go_wp2_with (first | (go_at_call 47; refine (HE.out w0 _ (by assumption)).mono ?_; rintro e' w' ⟨rfl, g'⟩; have c0' := (hB0.grew g').cell 0; have c1' := (hB0.grew g').cell 1; have c2' := (hB0.grew g').cell 2) | (go_at_call 48; refine (HD.out w0 _ (by assumption)).mono ?_; rintro e' w' ⟨rfl, g'⟩))
    go_ret
    exact ⟨rfl, g0.trans (by assumption)⟩

/-! ### Memory of one's own; what is refused -/
theorem clone_c {v : Value} {xs : List Int} (hl : xs.length ≤ 140737488355328) {W w : World} (hb : Buf w v xs) (g : Grew W w) :
    Calls Try.prog 39 #[v] w fun e w' => ∃ a c, e = .returned (.slice a xs.length c) ∧ Hid (Buf w' (.slice a xs.length c) xs) ∧ Grew W w' := by
  obtain ⟨a, c, rfl, hc, ha⟩ := hb.shape
  have HB := Lib.hid hb
  rcases a with _ | ad
  · have hnil := fun w => Lib.run_eql_slice_nil (P := Try.prog) w 22 5 none 0 c 0 0 Try.underlying22
    have hx : xs = [] := by
      by_cases h : xs = []
      · exact h
      · obtain ⟨_, _, e, _⟩ := ha h
        cases e
    subst hx
    clear hb ha hc
    go_enter Try.func39, Try.ntmps39
    go_wp2_with fail
    go_ret
    exact ⟨none, 0, rfl, Buf.nil _, g⟩
  · have hnil := fun w => Lib.run_eql_slice_nil (P := Try.prog) w 22 5 (some ad) xs.length c 0 0 Try.underlying22
    clear ha hb
    go_enter Try.func39, Try.ntmps39
    go_wp2_with (refine wpList_append_b (W := w) rfl (.tmp 5) (.tmp 6) rfl (by exact (Grew.refl w).alloc _) (Row.lit w w.heap.size (Nat.le_refl _) #[] [] rfl (Nat.zero_le _) _ rfl 0 rfl) (HB.out.grew ((Grew.refl w).alloc _)) (by rfl) (by rfl) (by simpa using hl) ?_; intro v1 w1 HR1 g1 q1; clear q1; have HB1 := Lib.hid (HR1.out.buf HB.out.ok); obtain ⟨ao, co, eo, _, _⟩ := HB1.out.shape; subst eo)
    go_ret
    exact ⟨_, _, rfl, HB1.out, g.trans g1⟩
theorem own8_c {v : Value} {xs : List Int} (hl : xs.length ≤ 140737488355328) {W w : World} (hb : Buf w v xs) (g : Grew W w) :
    Calls Try.prog 18 #[.agg #[v]] w fun e w' => ∃ a c, e = .returned (.agg #[.slice a xs.length c]) ∧ Hid (Buf w' (.slice a xs.length c) xs) ∧ Grew W w' := by
  obtain ⟨a, c, rfl, hc, ha⟩ := hb.shape
  have HB := Lib.hid hb
  clear hb ha hc
  go_enter Try.func18, Try.ntmps18
  go_upto_region 1 with fail
  have hB0 : Blk ((w.alloc (.cells #[.slice a xs.length c] 24)).alloc (.cells #[.slice none 0 0] 24)) w.heap.size #[.slice a xs.length c] 24 := (Blk.new _ _ _ _ rfl).alloc _
  have hR0 : Blk ((w.alloc (.cells #[.slice a xs.length c] 24)).alloc (.cells #[.slice none 0 0] 24)) (w.heap.size + 1) #[.slice none 0 0] 24 := Blk.new _ _ _ _ (by simp)
  have g0 : Grew w ((w.alloc (.cells #[.slice a xs.length c] 24)).alloc (.cells #[.slice none 0 0] 24)) := ((Grew.refl w).alloc _).alloc _
  generalize ((w.alloc (.cells #[.slice a xs.length c] 24)).alloc (.cells #[.slice none 0 0] 24)) = w0 at *
  have cB := hB0.cell 0
  go_wp2_with fail
  refine (clone_c hl (HB.out.grew g0) (Grew.refl w0)).mono ?_
  rintro e w1 ⟨a1, c1, rfl, H1, g1⟩
  have hR1 := hR0.grew g1
  have cR := hR1.cell 0
  have fR := hR1.free 0
  go_wp2_with fail
  have hset := (hR1.set (o := 0) (.slice a1 xs.length c1)).cell 0
  exact bodyPost_ret (v := .agg #[.slice a1 xs.length c1]) (by simp [results, Try.results18, go_sem, hset]) rfl ⟨a1, c1, rfl, H1.out.store hR1 _, (g.trans (g0.trans g1)).setCell (by have := g.size; omega) _⟩
theorem refused_c {v : Value} {xs : List Int} (kind : Int) (page : Bool) (hl : xs.length ≤ 140737488355328) {W w : World} (hb : Buf w v xs) (g : Grew W w) :
    Calls Try.prog 20 #[.agg #[v], .int .i64 kind, .bool page] w fun e w' => ∃ a c, e = .returned (.tuple #[.int .u64 0, .agg #[.slice a xs.length c], .int .i64 (faultV kind page), .bool false]) ∧ Hid (Buf w' (.slice a xs.length c) xs) ∧ Grew W w' := by
  obtain ⟨a, c, rfl, hc, ha⟩ := hb.shape
  have HB := Lib.hid hb
  clear hb ha hc
  go_enter Try.func20, Try.ntmps20
  go_upto_region 1 with fail
  have hB0 : Blk ((w.alloc (.cells #[.slice a xs.length c] 24)).alloc (.cells #[.slice none 0 0] 24)) w.heap.size #[.slice a xs.length c] 24 := (Blk.new _ _ _ _ rfl).alloc _
  have hR0 : Blk ((w.alloc (.cells #[.slice a xs.length c] 24)).alloc (.cells #[.slice none 0 0] 24)) (w.heap.size + 1) #[.slice none 0 0] 24 := Blk.new _ _ _ _ (by simp)
  have g0 : Grew w ((w.alloc (.cells #[.slice a xs.length c] 24)).alloc (.cells #[.slice none 0 0] 24)) := ((Grew.refl w).alloc _).alloc _
  generalize ((w.alloc (.cells #[.slice a xs.length c] 24)).alloc (.cells #[.slice none 0 0] 24)) = w0 at *
  have cB := hB0.cell 0
  go_wp2_with fail
  refine (own8_c hl (HB.out.grew g0) (Grew.refl w0)).mono ?_
  rintro e w1 ⟨a1, c1, rfl, H1, g1⟩
  have hR1 := hR0.grew g1
  have cR := hR1.cell 0
  have fR := hR1.free 0
  go_wp2_with (go_at_call 12; refine (fault_c _ _ _).mono ?_; rintro e' w' ⟨rfl, rfl⟩)
  have hset := (hR1.set (o := 0) (.slice a1 xs.length c1)).cell 0
  exact bodyPost_ret (v := .tuple #[.int .u64 0, .agg #[.slice a1 xs.length c1], .int .i64 (faultV kind page), .bool false]) (by simp [results, Try.results20, go_sem, hset]) rfl ⟨a1, c1, rfl, H1.out.store hR1 _, (g.trans (g0.trans g1)).setCell (by have := g.size; omega) _⟩
end Go.Proofs.Ytocmningcpcmiaa
