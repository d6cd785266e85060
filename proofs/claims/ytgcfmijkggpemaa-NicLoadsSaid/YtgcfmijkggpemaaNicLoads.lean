/-
  The statement that says what registers are, and become. For every controller, place, size, number, address. Conditions: none.
-/
import Derived.Test.YtgcfmijkggpemaaRows
import Derived.Test.YtgcfmijkggpemaaNcY
import Derived.Test.YtgcfmijkggpemaaNcRd
import Derived.Test.YtgcfmijkggpemaaNcRa
import Derived.Test.YtgcfmijkggpemaaPart
import Derived.Test.YtgcfmijkggpemaaLaw
import Derived.Deep.QuietTactic
import Derived.BigQuiet
import Derived.Deep.DeepCutAuto
import Derived.BigFrame
set_option maxRecDepth 4000
set_option linter.unusedVariables false
set_option linter.unusedSimpArgs false
namespace Go.Proofs.Ytgcfmijkggpemaa.nicLoads
open Go.ChangeShapes Go.WideShapes Go.ChangeAt Go.RowKit Go.Proofs.Ytgcfmijkggpemaa

theorem q_nc {ops : Array Oper} {C : World → Prop} {Q : Act → Prop} {rest : List Oper} {o : Oper} {a : Act} (hw : Region.wanted o (yielded ops a.tmps) = true) (v : Operand) (ho : o.op = .load 25 v) (d : Option Tmp) (hd : o.dst = d) {g : Nat} {c : Nat → Int} {u : Value} {T : TypeId}
    (k : ∀ w, C w → Blk w g (ncA c u) T) (hx : a.eval v = .pointer (some ⟨g, 0, none⟩)) (h : wpQuiet Try.prog ops C Q rest (a.put d (ncV c u))) : wpQuiet Try.prog ops C Q (o :: rest) a :=
  wpQuiet_load_part hw _ v ho d hd k (ncA c u) hx _ Try.underlying25 rfl ncInfo rfl h

set_option maxHeartbeats 8000000 in
theorem walk_all (c c2 cn : Nat → Int) (m ms mw : List Int) (nn kn mn : Nat) (na ma : Option Addr) (nk mk : Nat) (off size x lv er : Int) (lb sb cb eb : Bool) (W : World) (hN : Buf W (.slice na nn nk) m) (hM : Buf W (.slice ma mn mk) ms)
    (hL : (∀ w, Buf w (.slice na nn nk) m → Calls Try.prog 13 #[ncV c (.slice na nn nk), .int .u64 off, .int .i64 size] w fun e w' => e = .returned (.tuple #[.int .u64 lv, .bool lb]) ∧ Grew w w'))
    (hL2 : (∀ w, Buf w (.slice na nn nk) m → Calls Try.prog 14 #[ncV c (.slice na nn nk), .int .u64 off, .int .i64 size] w fun e w' => e = .returned (.tuple #[.int .u64 lv, .bool lb]) ∧ Grew w w'))
    (hS : (∀ w, Buf w (.slice na nn nk) m → Calls Try.prog 15 #[ncV c (.slice na nn nk), .int .u64 off, .int .i64 size, .int .u64 x] w fun e w' => ∃ b i, e = .returned (.tuple #[ncV c2 (.slice b nn i), .bool sb]) ∧ Hid (Buf w' (.slice b nn i) m) ∧ Grew w w'))
    (hS2 : (∀ w, Buf w (.slice na nn nk) m → Calls Try.prog 16 #[ncV c (.slice na nn nk), .int .u64 off, .int .i64 size, .int .u64 x] w fun e w' => ∃ b i, e = .returned (.tuple #[ncV c2 (.slice b nn i), .bool sb]) ∧ Hid (Buf w' (.slice b nn i) m) ∧ Grew w w'))
    (hW : (∀ w, Buf w (.slice ma mn mk) ms → Calls Try.prog 17 #[.slice ma mn mk] w fun e w' => ∃ b i, e = .returned (.tuple #[ncV cn (.slice b kn i), .int .i64 er]) ∧ Hid (Buf w' (.slice b kn i) mw) ∧ Grew w w'))
    (hW2 : (∀ w, Buf w (.slice ma mn mk) ms → Calls Try.prog 18 #[.slice ma mn mk] w fun e w' => ∃ b i, e = .returned (.tuple #[ncV cn (.slice b kn i), .int .i64 er]) ∧ Hid (Buf w' (.slice b kn i) mw) ∧ Grew w w'))
    (hC : (∀ w, Calls Try.prog 9 #[ncV c (.slice na nn nk)] w fun e w' => e = .returned (.bool cb) ∧ Grew w w'))
    (hC2 : (∀ w, Calls Try.prog 20 #[ncV c (.slice na nn nk)] w fun e w' => e = .returned (.bool cb) ∧ Grew w w'))
    (hE : (∀ w, Calls Try.prog 21 #[ncV c (.slice na nn nk)] w fun e w' => e = .returned (.bool eb) ∧ Grew w w'))
    (hE2 : (∀ w, Calls Try.prog 22 #[ncV c (.slice na nn nk)] w fun e w' => e = .returned (.bool eb) ∧ Grew w w'))
    (hM1 : (∀ w b1 i1 b2 i2, Buf w (.slice b1 nn i1) m → Buf w (.slice b2 nn i2) m → Calls Try.prog 19 #[ncV c2 (.slice b1 nn i1), ncV c2 (.slice b2 nn i2)] w fun e w' => e = .returned (.bool true) ∧ Grew w w'))
    (hM2 : (∀ w b1 i1 b2 i2, Buf w (.slice b1 kn i1) mw → Buf w (.slice b2 kn i2) mw → Calls Try.prog 19 #[ncV cn (.slice b1 kn i1), ncV cn (.slice b2 kn i2)] w fun e w' => e = .returned (.bool true) ∧ Grew w w')) :
    Calls Try.prog 4 #[ncV c (.slice na nn nk), .int .u64 off, .int .i64 size, .int .u64 x, .slice ma mn mk] W fun e w' => e = .returned (.bool true) ∧ Below W.heap.size W w' := by
  have HL := Lib.hid hL
  have HL2 := Lib.hid hL2
  have HS := Lib.hid hS
  have HS2 := Lib.hid hS2
  have HW := Lib.hid hW
  have HW2 := Lib.hid hW2
  have HC := Lib.hid hC
  have HC2 := Lib.hid hC2
  have HE := Lib.hid hE
  have HE2 := Lib.hid hE2
  have HM1 := Lib.hid hM1
  have HM2 := Lib.hid hM2
  have HN := Lib.hid hN
  have HMM := Lib.hid hM
  clear hN hM hL hL2 hS hS2 hW hW2 hC hC2 hE hE2 hM1 hM2
  go_enter Try.func4, Try.ntmps4
  go_upto_region 1 with fail
  have kA : Blk (W.alloc (.cells (ncA c (.slice na nn nk)) 25)) W.heap.size (ncA c (.slice na nn nk)) 25 := Blk.new _ _ _ _ rfl
  have g0 : Grew W (W.alloc (.cells (ncA c (.slice na nn nk)) 25)) := (Grew.refl W).alloc _
  generalize (W.alloc (.cells (ncA c (.slice na nn nk)) 25)) = w0 at *
  generalize hZ : W.heap.size = A at *
  have HZ := Lib.hid hZ
  clear hZ
  go_wp2_with (refine ld_nc rfl (.tmp 5) rfl _ rfl kA (by rfl) ?_)
  refine (HL.out _ (HN.out.grew g0)).mono ?_
  rintro e w1 ⟨rfl, g1⟩
  replace kA := kA.grew g1
  replace g0 := g0.trans g1
  clear g1
  go_wp2_with (refine ld_nc rfl (.tmp 5) rfl _ rfl kA (by rfl) ?_)
  refine (HL2.out _ (HN.out.grew g0)).mono ?_
  rintro e w2 ⟨rfl, g1⟩
  replace kA := kA.grew g1
  replace g0 := g0.trans g1
  clear g1
  go_wp2_with (refine ld_nc rfl (.tmp 5) rfl _ rfl kA (by rfl) ?_)
  refine (HS.out _ (HN.out.grew g0)).mono ?_
  rintro e w3 ⟨bB, iB, rfl, RB, g1⟩
  replace kA := kA.grew g1
  replace g0 := g0.trans g1
  clear g1
  have lS := g0.size
  have lA := kA.lt
  go_upto_region 4 with (refine st_nc rfl (.tmp 15) (.tmp 43) rfl rfl c2 (Blk.new w3 zeroN 25 _ rfl) rfl (by rfl) (by rfl) ⟨_, _, _, rfl⟩ ?_; intro w4 kB oo)
  have kz : Blk (w3.alloc (.cells zeroN 25)) w3.heap.size zeroN 25 := Blk.new _ _ _ _ rfl
  replace kA := (kA.alloc (.cells zeroN 25)).only oo (by omega)
  clear lA
  replace RB := Lib.hid ((RB.out.grew ((Grew.refl w3).alloc _)).only oo kz (nb_nc (fun _ => 0) none 0 0))
  replace g0 : Grew W w4 := oo.grew (g0.alloc _) lS
  clear oo kz lS
  generalize w3.heap.size = B at *
  go_wp2_with (refine ld_nc rfl (.tmp 5) rfl _ rfl kA (by rfl) ?_)
  refine (HS2.out _ (HN.out.grew g0)).mono ?_
  rintro e w5 ⟨bC, iC, rfl, RC, g1⟩
  replace kA := kA.grew g1
  replace kB := kB.grew g1
  replace RB := Lib.hid (RB.out.grew g1)
  replace g0 := g0.trans g1
  clear g1
  have lS := g0.size
  have lA := kA.lt
  have lB := kB.lt
  go_upto_region 5 with (refine st_nc rfl (.tmp 17) (.tmp 51) rfl rfl c2 (Blk.new w5 zeroN 25 _ rfl) rfl (by rfl) (by rfl) ⟨_, _, _, rfl⟩ ?_; intro w6 kC oo)
  have kz : Blk (w5.alloc (.cells zeroN 25)) w5.heap.size zeroN 25 := Blk.new _ _ _ _ rfl
  replace kA := (kA.alloc (.cells zeroN 25)).only oo (by omega)
  clear lA
  replace kB := (kB.alloc (.cells zeroN 25)).only oo (by omega)
  clear lB
  replace RB := Lib.hid ((RB.out.grew ((Grew.refl w5).alloc _)).only oo kz (nb_nc (fun _ => 0) none 0 0))
  replace RC := Lib.hid ((RC.out.grew ((Grew.refl w5).alloc _)).only oo kz (nb_nc (fun _ => 0) none 0 0))
  replace g0 : Grew W w6 := oo.grew (g0.alloc _) lS
  clear oo kz lS
  generalize w5.heap.size = C at *
  go_wp2_with fail
  refine (HW.out _ (HMM.out.grew g0)).mono ?_
  rintro e w7 ⟨bD, iD, rfl, RD, g1⟩
  replace kA := kA.grew g1
  replace kB := kB.grew g1
  replace kC := kC.grew g1
  replace RB := Lib.hid (RB.out.grew g1)
  replace RC := Lib.hid (RC.out.grew g1)
  replace g0 := g0.trans g1
  clear g1
  have lS := g0.size
  have lA := kA.lt
  have lB := kB.lt
  have lC := kC.lt
  go_upto_region 6 with (refine st_nc rfl (.tmp 19) (.tmp 56) rfl rfl cn (Blk.new w7 zeroN 25 _ rfl) rfl (by rfl) (by rfl) ⟨_, _, _, rfl⟩ ?_; intro w8 kD oo)
  have kz : Blk (w7.alloc (.cells zeroN 25)) w7.heap.size zeroN 25 := Blk.new _ _ _ _ rfl
  replace kA := (kA.alloc (.cells zeroN 25)).only oo (by omega)
  clear lA
  replace kB := (kB.alloc (.cells zeroN 25)).only oo (by omega)
  clear lB
  replace kC := (kC.alloc (.cells zeroN 25)).only oo (by omega)
  clear lC
  replace RB := Lib.hid ((RB.out.grew ((Grew.refl w7).alloc _)).only oo kz (nb_nc (fun _ => 0) none 0 0))
  replace RC := Lib.hid ((RC.out.grew ((Grew.refl w7).alloc _)).only oo kz (nb_nc (fun _ => 0) none 0 0))
  replace RD := Lib.hid ((RD.out.grew ((Grew.refl w7).alloc _)).only oo kz (nb_nc (fun _ => 0) none 0 0))
  replace g0 : Grew W w8 := oo.grew (g0.alloc _) lS
  clear oo kz lS
  generalize w7.heap.size = D at *
  go_wp2_with fail
  refine (HW2.out _ (HMM.out.grew g0)).mono ?_
  rintro e w9 ⟨bE, iE, rfl, RE, g1⟩
  replace kA := kA.grew g1
  replace kB := kB.grew g1
  replace kC := kC.grew g1
  replace kD := kD.grew g1
  replace RB := Lib.hid (RB.out.grew g1)
  replace RC := Lib.hid (RC.out.grew g1)
  replace RD := Lib.hid (RD.out.grew g1)
  replace g0 := g0.trans g1
  clear g1
  have lS := g0.size
  have lA := kA.lt
  have lB := kB.lt
  have lC := kC.lt
  have lD := kD.lt
  go_upto_region 7 with (refine st_nc rfl (.tmp 21) (.tmp 61) rfl rfl cn (Blk.new w9 zeroN 25 _ rfl) rfl (by rfl) (by rfl) ⟨_, _, _, rfl⟩ ?_; intro w10 kE oo)
  have kz : Blk (w9.alloc (.cells zeroN 25)) w9.heap.size zeroN 25 := Blk.new _ _ _ _ rfl
  replace kA := (kA.alloc (.cells zeroN 25)).only oo (by omega)
  clear lA
  replace kB := (kB.alloc (.cells zeroN 25)).only oo (by omega)
  clear lB
  replace kC := (kC.alloc (.cells zeroN 25)).only oo (by omega)
  clear lC
  replace kD := (kD.alloc (.cells zeroN 25)).only oo (by omega)
  clear lD
  replace RB := Lib.hid ((RB.out.grew ((Grew.refl w9).alloc _)).only oo kz (nb_nc (fun _ => 0) none 0 0))
  replace RC := Lib.hid ((RC.out.grew ((Grew.refl w9).alloc _)).only oo kz (nb_nc (fun _ => 0) none 0 0))
  replace RD := Lib.hid ((RD.out.grew ((Grew.refl w9).alloc _)).only oo kz (nb_nc (fun _ => 0) none 0 0))
  replace RE := Lib.hid ((RE.out.grew ((Grew.refl w9).alloc _)).only oo kz (nb_nc (fun _ => 0) none 0 0))
  replace g0 : Grew W w10 := oo.grew (g0.alloc _) lS
  clear oo kz lS
  generalize w9.heap.size = E at *
  have S1 := Lib.hid (fun z : Over w10 => HM1.out z.w bB iB bC iC (RB.out.grew z.g) (RC.out.grew z.g))
  have S2 := Lib.hid (fun z : Over w10 => HM2.out z.w bD iD bE iE (RD.out.grew z.g) (RE.out.grew z.g))
  have C1 := Lib.hid (fun z : Over w10 => HC.out z.w)
  have C2 := Lib.hid (fun z : Over w10 => HC2.out z.w)
  have E1 := Lib.hid (fun z : Over w10 => HE.out z.w)
  have E2 := Lib.hid (fun z : Over w10 => HE2.out z.w)
  have X1 := Lib.hid (fun z : Over w10 => heads_c (Grew.refl z.w))
  clear RB RC RD RE
  refine region_over (by kernel_rfl) (by kernel_rfl) ?_
  repeat (first | (refine q_nc (by kernel_rfl) (.tmp 15) rfl _ rfl (fun _ ⟨z, e⟩ => e ▸ kB.over z) (by rfl) ?_; simp only [Act.put, List.setIfInBounds_toArray, List.set_cons_zero, List.set_cons_succ]) | (refine q_nc (by kernel_rfl) (.tmp 17) rfl _ rfl (fun _ ⟨z, e⟩ => e ▸ kC.over z) (by rfl) ?_; simp only [Act.put, List.setIfInBounds_toArray, List.set_cons_zero, List.set_cons_succ]) | (refine q_nc (by kernel_rfl) (.tmp 19) rfl _ rfl (fun _ ⟨z, e⟩ => e ▸ kD.over z) (by rfl) ?_; simp only [Act.put, List.setIfInBounds_toArray, List.set_cons_zero, List.set_cons_succ]) | (refine q_nc (by kernel_rfl) (.tmp 21) rfl _ rfl (fun _ ⟨z, e⟩ => e ▸ kE.over z) (by rfl) ?_; simp only [Act.put, List.setIfInBounds_toArray, List.set_cons_zero, List.set_cons_succ]) | (refine q_nc (by kernel_rfl) (.tmp 5) rfl _ rfl (fun _ ⟨z, e⟩ => e ▸ kA.over z) (by rfl) ?_; simp only [Act.put, List.setIfInBounds_toArray, List.set_cons_zero, List.set_cons_succ]) | go_big_quiet_step ((first | (go_at_call 19; with_reducible exact over_grew (S1.out _)) | (go_at_call 19; with_reducible exact over_grew (S2.out _)) | (go_at_call 9; with_reducible exact over_grew (C1.out _)) | (go_at_call 20; with_reducible exact over_grew (C2.out _)) | (go_at_call 21; with_reducible exact over_grew (E1.out _)) | (go_at_call 22; with_reducible exact over_grew (E2.out _)) | (go_at_call 10; with_reducible exact over_grew (X1.out _)))))
  refine wpQuiet_nil ?_
  intro z
  have g9 := g0.trans z.g
  go_wp2_with fail
  go_ret
  exact ⟨rfl, g9⟩
theorem walk (c : Nat → Int) (m : List Int) (na : Option Addr) (nk : Nat) (off : Int) (hoff : 0 ≤ off ∧ off < 18446744073709551616) (size : Int) (_hs : -9223372036854775808 ≤ size ∧ size ≤ 9223372036854775807) (x : Int) (hx : 0 ≤ x ∧ x < 18446744073709551616) (mv : Value) (ms : List Int) (W : World) (hN : Buf W (.slice na m.length nk) m) (hmo : MacOf c m) (hfit : m.length ≤ 140737488355328) (hM : Buf W mv ms) :
    Calls Try.prog 4 #[ncV c (.slice na m.length nk), .int .u64 off, .int .i64 size, .int .u64 x, mv] W fun e w' => e = .returned (.bool true) ∧ Below W.heap.size W w' := by
  obtain ⟨ma, mk, rfl, _, _⟩ := hM.shape
  by_cases h6 : ms.length = 6
  · exact walk_all c (stS c m.length off size x) (newC ms) m ms ms m.length ms.length ms.length na ma nk mk off size x (ldV c m.length off size) 0 (!badL c m.length off size) (!badL c m.length off size) (chkB c m.length) (lineB c m.length) W hN hM
      (fun w h => load_c hmo hoff.1 h) (fun w h => rLoad_c hmo hoff.1 h) (fun w h => store_c hmo hfit hoff.1 hx.1 h) (fun w h => rStore_c hmo hoff.1 hx.1 h) (fun w h => New_yes h6 h) (fun w h => rNew_yes h6 h)
      (fun w => check_c c na m.length nk w) (fun w => rCheck_c c na m.length nk w) (fun w => line_c c na m.length nk w) (fun w => rLine_c c na m.length nk w) (fun w b1 i1 b2 i2 h1 h2 => rSame_c h1 h2) (fun w b1 i1 b2 i2 h1 h2 => rSame_c h1 h2)
  · have e0 : ∀ w, Hid (Buf w (.slice none ([] : List Int).length 0) []) := fun w => Lib.hid (Buf.nil w)
    exact walk_all c (stS c m.length off size x) zeroC m ms [] m.length ([] : List Int).length ms.length na ma nk mk off size x (ldV c m.length off size) 2 (!badL c m.length off size) (!badL c m.length off size) (chkB c m.length) (lineB c m.length) W hN hM
      (fun w h => load_c hmo hoff.1 h) (fun w h => rLoad_c hmo hoff.1 h) (fun w h => store_c hmo hfit hoff.1 hx.1 h) (fun w h => rStore_c hmo hoff.1 hx.1 h)
      (fun w h => (New_no h6).mono (by rintro e w' ⟨rfl, g⟩; exact ⟨none, 0, rfl, e0 w', g⟩)) (fun w h => (rNew_no h6).mono (by rintro e w' ⟨rfl, g⟩; exact ⟨none, 0, rfl, e0 w', g⟩))
      (fun w => check_c c na m.length nk w) (fun w => rCheck_c c na m.length nk w) (fun w => line_c c na m.length nk w) (fun w => rLine_c c na m.length nk w) (fun w b1 i1 b2 i2 h1 h2 => rSame_c h1 h2) (fun w b1 i1 b2 i2 h1 h2 => rSame_c h1 h2)
set_option maxRecDepth 100000 in
theorem lifted (os : Os) (started : os.Started) (H : Type) (enc : TypeId × Value → H) :
    ReturnsInHanded {} Try.checked os 4 .any (Rows.nicLoadsSpec.pre6 enc Try.prog Try.f4 Rows.nicLoadsRow.domain false) (Rows.nicLoadsSpec.post enc Try.prog Try.f4 false true false false) := by
  refine returnsInHanded_of_change_sized (C := Try.checked) own started (by kernel_rfl) Try.func4
    (ChangeSpec.witness6 (enc := enc) (C := Try.checked) false ⟨#[], #[.agg #[.int .i64 0, .int .i64 0, .int .i64 0, .int .u64 0, .int .i64 0, .int .i64 0, .int .i64 0, .int .u64 0, .int .i64 0, .int .i64 0, .int .i64 0, .int .i64 0, .int .i64 0, .slice none 0 0], .int .u64 0, .int .i64 0, .int .u64 0, .slice none 0 0], []⟩ 8 (by kernel_rfl) (by kernel_rfl) (by kernel_rfl) (by kernel_rfl)) ?_
  intro W base args ds gs before hval0 hW _ hz0 _
  have hval : ∀ (j : Nat) t v, Try.f4.params[j]? = some t → args[j]? = some v → Value.okWide Try.prog W .any base t v := hval0
  have hW' := hW
  obtain ⟨p, q, hA0, hV, rfl, hfz, hnd⟩ := hW
  have hA : DataW.TrodAll enc Try.prog W 0 (fun _ => true) true Try.f4.params.toList args.toList ds p := hA0
  rw [Try.params4] at hA hval
  obtain ⟨v0, vs0, d0, ds0, p0, q0, hargs, rfl, rfl, h0, r'0⟩ := trodAll_cons hA
  obtain ⟨v1, vs1, d1, ds1, p1, q1, rfl, rfl, rfl, h1, r'1⟩ := trodAll_cons r'0
  obtain ⟨v2, vs2, d2, ds2, p2, q2, rfl, rfl, rfl, h2, r'2⟩ := trodAll_cons r'1
  obtain ⟨v3, vs3, d3, ds3, p3, q3, rfl, rfl, rfl, h3, r'3⟩ := trodAll_cons r'2
  obtain ⟨v4, vs4, d4, ds4, p4, q4, rfl, rfl, rfl, h4, r'4⟩ := trodAll_cons r'3
  obtain ⟨rfl, rfl, rfl⟩ := trodAll_nil r'4
  obtain rfl : args = #[v0, v1, v2, v3, v4] := by cases args; simp_all
  obtain ⟨c0, m0, na0, nk0, rfl, k0, mo0, f0⟩ := open_nic (hval 0 25 v0 rfl rfl) h0
  have fits0 := f0 (fun m hm => by simpa using List.all_eq_true.1 hz0 _ (DataW.weights_mem_each (j := 0) (t := 25) rfl rfl m hm))
  obtain ⟨a1, rfl, rfl, rfl, w1⟩ := open_int Try.underlying22 (hval 1 22 v1 rfl rfl) h1
  obtain ⟨a2, rfl, rfl, rfl, w2⟩ := open_int Try.underlying3 (hval 2 3 v2 rfl rfl) h2
  obtain ⟨a3, rfl, rfl, rfl, w3⟩ := open_int Try.underlying22 (hval 3 22 v3 rfl rfl) h3
  obtain ⟨x4, k4⟩ := open_buf Try.underlying23 Try.underlying5 (by kernel_rfl) (hval 4 23 v4 rfl rfl) h4
  refine (walk c0 m0 na0 nk0 a1 (wf_u64 w1) a2 (wf_i64 w2) a3 (wf_u64 w3) v4 x4 W k0 mo0 fits0 k4).mono fun e W' ⟨he, hb⟩ => ?_
  subst he
  exact ⟨_, rfl, law_post hW' rfl rfl laid (by kernel_rfl) rfl Try.underlying4 hb⟩

theorem over : Rows.nicLoadsRow.holds Try.pinned (OpenSpec.ofChange Rows.nicLoadsSpec) :=
  OpenClaim.holds_of_wide 4 Try.f4 rfl rfl rfl rfl rfl rfl rfl ⟨rfl, rfl, rfl, rfl, rfl⟩ rfl rfl rfl rfl rfl (by kernel_rfl) Try.func4 (by kernel_rfl)
    (of_decide_eq_true (by kernel_rfl)) (by unfold Func.isWrapper; first | (rw [if_pos (by decide +kernel)]; kernel_rfl) | (rw [if_neg (by decide +kernel)]; exact ⟨rfl, rfl⟩))
    (fun os started H enc _ => lifted os started H enc)

theorem proved : Rows.NicLoadsSaid := over
#print axioms proved
end Go.Proofs.Ytgcfmijkggpemaa.nicLoads
