/-
  The statement about what is loaded, stored, ticked, and which lines are up. For every timer, place, size, number. Conditions: none.
-/
import Derived.Test.YtlngmjbjjahncaaRows
import Derived.Test.YtlngmjbjjahncaaClH
import Derived.Test.YtlngmjbjjahncaaLaw
import Derived.Deep.QuietTactic
import Derived.BigQuiet
import Derived.Deep.DeepCutAuto
set_option linter.unusedVariables false
set_option linter.unusedSimpArgs false
namespace Go.Proofs.Ytlngmjbjjahncaa.clintDoes
open Go.ChangeShapes Go.WideShapes Go.ChangeAt Go.RowKit

set_option maxHeartbeats 4000000 in
theorem walk_with (T C : Int) (S : Bool) (off size x a : Int) (ok : Bool) (T' C' : Int) (S' : Bool) (W : World)
    (h1 : ∀ W w, Grew W w → Calls Try.prog 6 #[.agg #[.int .u64 T, .int .u64 C, .bool S], .int .u64 off, .int .i64 size] w fun e w' => e = .returned (.tuple #[.int .u64 a, .bool ok]) ∧ Grew W w') (h2 : ∀ W w, Grew W w → Calls Try.prog 7 #[.agg #[.int .u64 T, .int .u64 C, .bool S], .int .u64 off, .int .i64 size] w fun e w' => e = .returned (.tuple #[.int .u64 a, .bool ok]) ∧ Grew W w')
    (h3 : ∀ W w, Grew W w → Calls Try.prog 8 #[.agg #[.int .u64 T, .int .u64 C, .bool S], .int .u64 off, .int .i64 size, .int .u64 x] w fun e w' => e = .returned (.tuple #[.agg #[.int .u64 T', .int .u64 C', .bool S'], .bool ok]) ∧ Grew W w') (h4 : ∀ W w, Grew W w → Calls Try.prog 9 #[.agg #[.int .u64 T, .int .u64 C, .bool S], .int .u64 off, .int .i64 size, .int .u64 x] w fun e w' => e = .returned (.tuple #[.agg #[.int .u64 T', .int .u64 C', .bool S'], .bool ok]) ∧ Grew W w') :
    Calls Try.prog 3 #[.agg #[.int .u64 T, .int .u64 C, .bool S], .int .u64 off, .int .i64 size, .int .u64 x] W fun e w' => e = .returned (.bool true) ∧ Below W.heap.size W w' := by
  have H1 := Lib.hid h1
  have H2 := Lib.hid h2
  have H3 := Lib.hid h3
  have H4 := Lib.hid h4
  clear h1 h2 h3 h4
  go_enter Try.func3, Try.ntmps3
  go_upto_region 1 with fail
  have kd : Blk (W.alloc (.cells #[.int .u64 T, .int .u64 C, .bool S] 24)) W.heap.size #[.int .u64 T, .int .u64 C, .bool S] 24 := Blk.new _ _ _ _ rfl
  have g0 : Grew W (W.alloc (.cells #[.int .u64 T, .int .u64 C, .bool S] 24)) := (Grew.refl W).alloc _
  generalize (W.alloc (.cells #[.int .u64 T, .int .u64 C, .bool S] 24)) = w0 at *
  generalize W.heap.size = D at *
  have c0 := (kd).cell 0
  have c1 := (kd).cell 1
  have c2 := (kd).cell 2
  go_upto_region 2 with (go_at_call 6; refine (H1.out w0 _ (Grew.refl w0)).mono ?_; rintro e w1 ⟨rfl, gw1⟩)
  have kd1 := kd.grew gw1
  have s1 := g0.trans gw1
  clear c0 c1 c2
  have c0 := (kd1).cell 0
  have c1 := (kd1).cell 1
  have c2 := (kd1).cell 2
  go_upto_region 3 with (go_at_call 7; refine (H2.out w1 _ (Grew.refl w1)).mono ?_; rintro e w2 ⟨rfl, gw2⟩)
  have kd2 := kd1.grew gw2
  have s2 := s1.trans gw2
  clear c0 c1 c2
  have c0 := (kd2).cell 0
  have c1 := (kd2).cell 1
  have c2 := (kd2).cell 2
  go_upto_region 4 with (go_at_call 8; refine (H3.out w2 _ (Grew.refl w2)).mono ?_; rintro e w3 ⟨rfl, gw3⟩)
  have q3 : Grew w2 (w3.alloc (.cells #[.int .u64 T', .int .u64 C', .bool S'] 24)) := gw3.alloc _
  have ke : Blk (w3.alloc (.cells #[.int .u64 T', .int .u64 C', .bool S'] 24)) w3.heap.size #[.int .u64 T', .int .u64 C', .bool S'] 24 := Blk.new _ _ _ _ rfl
  have s4 : Grew W (w3.alloc (.cells #[.int .u64 T', .int .u64 C', .bool S'] 24)) := (s2.trans gw3).alloc _
  generalize (w3.alloc (.cells #[.int .u64 T', .int .u64 C', .bool S'] 24)) = w4 at *
  generalize w3.heap.size = E at *
  have kd4 := kd2.grew q3
  clear c0 c1 c2
  have c0 := (kd4).cell 0
  have c1 := (kd4).cell 1
  have c2 := (kd4).cell 2
  go_upto_region 5 with (go_at_call 9; refine (H4.out w4 _ (Grew.refl w4)).mono ?_; rintro e w5 ⟨rfl, gw5⟩)
  have q5 : Grew w4 (w5.alloc (.cells #[.int .u64 T', .int .u64 C', .bool S'] 24)) := gw5.alloc _
  have kf : Blk (w5.alloc (.cells #[.int .u64 T', .int .u64 C', .bool S'] 24)) w5.heap.size #[.int .u64 T', .int .u64 C', .bool S'] 24 := Blk.new _ _ _ _ rfl
  have s6 : Grew W (w5.alloc (.cells #[.int .u64 T', .int .u64 C', .bool S'] 24)) := (s4.trans gw5).alloc _
  generalize (w5.alloc (.cells #[.int .u64 T', .int .u64 C', .bool S'] 24)) = w6 at *
  generalize w5.heap.size = F at *
  have kd6 := kd4.grew q5
  have ke6 := ke.grew q5
  clear c0 c1 c2
  have c0 := (kd6).cell 0
  have c1 := (kd6).cell 1
  have c2 := (kd6).cell 2
  go_upto_region 6 with (go_at_call 10; refine (lines_c T C S (Grew.refl w6)).mono ?_; rintro e w7 ⟨rfl, gw7⟩)
  have kd7 := kd6.grew gw7
  have ke7 := ke6.grew gw7
  have kf7 := kf.grew gw7
  have s7 := s6.trans gw7
  clear c0 c1 c2
  have c0 := (kd7).cell 0
  have c1 := (kd7).cell 1
  have c2 := (kd7).cell 2
  go_upto_region 7 with (go_at_call 11; refine (lines_d T C S (Grew.refl w7)).mono ?_; rintro e w8 ⟨rfl, gw8⟩)
  have kd8 := kd7.grew gw8
  have ke8 := ke7.grew gw8
  have kf8 := kf7.grew gw8
  have s8 := s7.trans gw8
  clear c0 c1 c2
  have y0 := fun z : Over w8 => (kd8).overCell 0 _ rfl z
  have y1 := fun z : Over w8 => (kd8).overCell 1 _ rfl z
  have y2 := fun z : Over w8 => (kd8).overCell 2 _ rfl z
  have u0 := fun z : Over w8 => (ke8).overCell 0 _ rfl z
  have u1 := fun z : Over w8 => (ke8).overCell 1 _ rfl z
  have u2 := fun z : Over w8 => (ke8).overCell 2 _ rfl z
  have v0 := fun z : Over w8 => (kf8).overCell 0 _ rfl z
  have v1 := fun z : Over w8 => (kf8).overCell 1 _ rfl z
  have v2 := fun z : Over w8 => (kf8).overCell 2 _ rfl z
  have hq := cl_eql T' C' S'
  have hq2 := cl_eql (IntKind.u64.wrap (T + 1)) C S
  have e1 : (a == a) = true := by simp
  have e2 : (ok == ok) = true := by simp
  have e3 : (S == S) = true := by simp
  have e4 : (decide (C ≤ T) == decide (C ≤ T)) = true := by simp
  generalize decide (C ≤ T) = L at *
  obtain ⟨r, hr⟩ : ∃ r, r = IntKind.u64.wrap (T + 1) := ⟨_, rfl⟩
  have ht := fun (W w : World) (g : Grew W w) => tick_c T C S g
  have ht' := fun (W w : World) (g : Grew W w) => tick_d T C S g
  have hh := fun (W w : World) (g : Grew W w) => heads_c g
  rw [← hr] at hq2 ht ht'
  have HT := Lib.hid ht
  have HU := Lib.hid ht'
  have HH := Lib.hid hh
  clear ht ht' hh hr H1 H2 H3 H4
  refine region_over (by kernel_rfl) (by kernel_rfl) ?_
  repeat (first | go_big_quiet_step ((first | (go_at_call 12; with_reducible exact over_eq (HT.out _ _ (Over.g _))) | (go_at_call 13; with_reducible exact over_eq (HU.out _ _ (Over.g _))) | (go_at_call 14; with_reducible exact over_eq (HH.out _ _ (Over.g _))))) | quiet_step ((first | (go_at_call 12; with_reducible exact over_eq (HT.out _ _ (Over.g _))) | (go_at_call 13; with_reducible exact over_eq (HU.out _ _ (Over.g _))) | (go_at_call 14; with_reducible exact over_eq (HH.out _ _ (Over.g _))))))
  refine wpQuiet_nil ?_
  intro z
  go_wp2_with fail
  go_ret
  exact ⟨rfl, s8.trans z.g⟩

theorem walk (T C : Int) (S : Bool) (hT : 0 ≤ T ∧ T < 18446744073709551616) (hC : 0 ≤ C ∧ C < 18446744073709551616) (off : Int) (ho : 0 ≤ off ∧ off < 18446744073709551616) (size : Int) (_hs : -9223372036854775808 ≤ size ∧ size ≤ 9223372036854775807) (x : Int) (hx : 0 ≤ x ∧ x < 18446744073709551616) (W : World) :
    Calls Try.prog 3 #[.agg #[.int .u64 T, .int .u64 C, .bool S], .int .u64 off, .int .i64 size, .int .u64 x] W fun e w' => e = .returned (.bool true) ∧ Below W.heap.size W w' := by
  rcases spot_or off size with ⟨p, l, n, h⟩ | h
  · exact walk_with T C S off size x _ true _ _ _ W (fun W w g => load_yes hT hC S h g) (fun W w g => load_d hT hC S h g) (fun W w g => store_yes hT hC S x hx h g) (fun W w g => store_d hT hC S x hx h g)
  · exact walk_with T C S off size x 0 false T C S W (fun W w g => load_no T C S ho.1 ho.2 h g) (fun W w g => ldn T C S ho.1 ho.2 h g) (fun W w g => store_no T C S x ho.1 ho.2 h g) (fun W w g => sd_no T C S off size x 0 (fun W w g => ldn T C S ho.1 ho.2 h g) g)
set_option maxRecDepth 100000 in
theorem lifted (os : Os) (started : os.Started) (H : Type) (enc : TypeId × Value → H) :
    ReturnsInHanded {} Try.checked os 3 .any (Rows.clintDoesSpec.pre6 enc Try.prog Try.f3 Rows.clintDoesRow.domain false) (Rows.clintDoesSpec.post enc Try.prog Try.f3 false true false false) := by
  refine returnsInHanded_of_change (C := Try.checked) own started (by kernel_rfl) Try.func3
    (ChangeSpec.witness6 (enc := enc) (C := Try.checked) false ⟨#[], #[.agg #[.int .u64 0, .int .u64 0, .bool false], .int .u64 0, .int .i64 0, .int .u64 0], []⟩ 8 (by kernel_rfl) (by kernel_rfl) (by kernel_rfl) (by kernel_rfl)) ?_
  intro W base args ds gs before hval0 hW _ _
  have hval : ∀ (j : Nat) t v, Try.f3.params[j]? = some t → args[j]? = some v → Value.okWide Try.prog W .any base t v := hval0
  have hW' := hW
  obtain ⟨p, q, hA0, hV, rfl, hfz, hnd⟩ := hW
  have hA : DataW.TrodAll enc Try.prog W 0 (fun _ => true) true Try.f3.params.toList args.toList ds p := hA0
  rw [Try.params3] at hA hval
  obtain ⟨v0, vs0, d0, ds0, p0, q0, hargs, rfl, rfl, h0, r'0⟩ := trodAll_cons hA
  obtain ⟨v1, vs1, d1, ds1, p1, q1, rfl, rfl, rfl, h1, r'1⟩ := trodAll_cons r'0
  obtain ⟨v2, vs2, d2, ds2, p2, q2, rfl, rfl, rfl, h2, r'2⟩ := trodAll_cons r'1
  obtain ⟨v3, vs3, d3, ds3, p3, q3, rfl, rfl, rfl, h3, r'3⟩ := trodAll_cons r'2
  obtain ⟨rfl, rfl, rfl⟩ := trodAll_nil r'3
  obtain rfl : args = #[v0, v1, v2, v3] := by cases args; simp_all
  obtain ⟨t0, c0, s0, rfl, wt0, wc0⟩ := open_clint (hval 0 24 v0 rfl rfl) h0
  obtain ⟨a1, rfl, rfl, rfl, w1⟩ := open_int Try.underlying22 (hval 1 22 v1 rfl rfl) h1
  obtain ⟨a2, rfl, rfl, rfl, w2⟩ := open_int Try.underlying3 (hval 2 3 v2 rfl rfl) h2
  obtain ⟨a3, rfl, rfl, rfl, w3⟩ := open_int Try.underlying22 (hval 3 22 v3 rfl rfl) h3
  refine (walk t0 c0 s0 wt0 wc0 a1 (wf_u64 w1) a2 (wf_i64 w2) a3 (wf_u64 w3) W).mono fun e W' ⟨he, hb⟩ => ?_
  subst he
  exact ⟨_, rfl, law_post hW' rfl rfl laid (by kernel_rfl) rfl Try.underlying4 hb⟩

theorem over : Rows.clintDoesRow.holds Try.pinned (OpenSpec.ofChange Rows.clintDoesSpec) :=
  OpenClaim.holds_of_wide 3 Try.f3 rfl rfl rfl rfl rfl rfl rfl ⟨rfl, rfl, rfl, rfl, rfl⟩ rfl rfl rfl rfl rfl (by kernel_rfl) Try.func3 (by kernel_rfl)
    (of_decide_eq_true (by kernel_rfl)) (by unfold Func.isWrapper; first | (rw [if_pos (by decide +kernel)]; kernel_rfl) | (rw [if_neg (by decide +kernel)]; exact ⟨rfl, rfl⟩))
    (fun os started H enc _ => lifted os started H enc)

theorem proved : Rows.ClintDoesSaid := over
#print axioms proved
end Go.Proofs.Ytlngmjbjjahncaa.clintDoes
