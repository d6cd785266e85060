/-
  The statement that a controller that may be stays so, whatever is stored, sent and received. For every controller, memory, frame, place and number. Conditions: none.
-/
import Derived.Test.YthmaaellpfoaiaaRows
import Derived.Test.YthmaaellpfoaiaaNcY
import Derived.Test.YthmaaellpfoaiaaLaw
import Derived.Deep.QuietTactic
import Derived.BigQuiet
import Derived.Deep.DeepCutAuto
import Derived.BigFrame
set_option maxRecDepth 4000
set_option linter.unusedVariables false
set_option linter.unusedSimpArgs false
namespace Go.Proofs.Ythmaaellpfoaiaa.nicStays
open Go.ChangeShapes Go.WideShapes Go.ChangeAt Go.RowKit Go.Proofs.Ythmaaellpfoaiaa

set_option maxHeartbeats 2000000 in
theorem walk_far (c : Nat → Int) (n6 : Nat) (na : Option Addr) (nk : Nat) (ra : Option Addr) (rn rc : Nat) (fa : Option Addr) (fn fm : Nat) (off x : Int) (W : World) (b1 b2 b3 : Bool) (h1 : decide ((70000 : Int) < (rn : Nat)) = b1) (h2 : decide ((3000 : Int) < (fn : Nat)) = b2) (h3 : chkB c n6 = b3) (hb : (b1 || b2 || !b3) = true) :
    Calls Try.prog 7 #[ncV c (.slice na n6 nk), .agg #[.slice ra rn rc], .slice fa fn fm, .int .u64 off, .int .u64 x] W fun e w' => e = .returned (.bool true) ∧ Below W.heap.size W w' := by
  have hC := check_c c na n6 nk
  rw [h3] at hC
  have HC := Lib.hid hC
  clear hC h3
  cases b1 <;> cases b2 <;> cases b3
  case false.false.true => simp at hb
  all_goals
    clear hb
    go_enter Try.func7, Try.ntmps7
    go_upto_region 1 with fail
    have kN : Blk ((W.alloc (.cells (ncA c (.slice na n6 nk)) 25)).alloc (.cells #[.slice ra rn rc] 27)) W.heap.size (ncA c (.slice na n6 nk)) 25 := (Blk.new W (ncA c (.slice na n6 nk)) 25 _ rfl).alloc (.cells #[.slice ra rn rc] 27)
    have kM : Blk ((W.alloc (.cells (ncA c (.slice na n6 nk)) 25)).alloc (.cells #[.slice ra rn rc] 27)) (W.heap.size + 1) #[.slice ra rn rc] 27 := Blk.new (W.alloc (.cells (ncA c (.slice na n6 nk)) 25)) #[.slice ra rn rc] 27 _ (by simp)
    have g0 : Grew W ((W.alloc (.cells (ncA c (.slice na n6 nk)) 25)).alloc (.cells #[.slice ra rn rc] 27)) := ((Grew.refl W).alloc (.cells (ncA c (.slice na n6 nk)) 25)).alloc (.cells #[.slice ra rn rc] 27)
    generalize ((W.alloc (.cells (ncA c (.slice na n6 nk)) 25)).alloc (.cells #[.slice ra rn rc] 27)) = w0 at *
    have lN : W.heap.size ≤ W.heap.size := by omega
    have lM : W.heap.size ≤ (W.heap.size + 1) := by omega
    have nNM : W.heap.size ≠ (W.heap.size + 1) := by omega
    have nMN : (W.heap.size + 1) ≠ W.heap.size := by omega
    generalize (W.heap.size + 1) = M at *
    generalize hZ : W.heap.size = N at *
    have HZ := Lib.hid hZ
    clear hZ
    have LN : Hid (W.heap.size ≤ N) := Lib.hid (by rw [HZ.out]; exact lN)
    have LM : Hid (W.heap.size ≤ M) := Lib.hid (by rw [HZ.out]; exact lM)
    have y0 := kM.cell 0
    try
      go_wp2_with (refine lw_nc (by rfl) (.tmp 5) rfl _ rfl kN (by rfl) ?_)
      refine (HC.out _).mono ?_
      rintro e w1 ⟨rfl, g1⟩
    go_wp2_with fail
    first
      | refine (heads_c (g0.trans g1)).mono ?_
      | refine (heads_c g0).mono ?_
    rintro e wh ⟨rfl, gh⟩
    go_wp2_with fail
    go_ret
    exact ⟨rfl, gh⟩
set_option maxHeartbeats 4000000 in
theorem walk_near (c : Nat → Int) (m : List Int) (na : Option Addr) (nk : Nat) (ra : Option Addr) (rn rc : Nat) (xs : List Int) (fa : Option Addr) (fn fm : Nat) (fs : List Int) (off x : Int) (hoff : 0 ≤ off) (hx : 0 ≤ x) (W : World) (hN : Buf W (.slice na 6 nk) m) (h6 : m.length = 6) (hmo : MacOf c m) (hc : ROk c) (hR : Buf W (.slice ra rn rc) xs) (hF : Buf W (.slice fa fn fm) fs) (h1 : ¬ ((70000 : Int) < (rn : Nat))) (h2 : ¬ ((3000 : Int) < (fn : Nat))) :
    Calls Try.prog 7 #[ncV c (.slice na 6 nk), .agg #[.slice ra rn rc], .slice fa fn fm, .int .u64 off, .int .u64 x] W fun e w' => e = .returned (.bool true) ∧ Below W.heap.size W w' := by
  have hC := check_c c na 6 nk
  rw [ok_chk hc] at hC
  have HC := Lib.hid hC
  obtain ⟨hrn, q0⟩ := hR.lenEq
  have hl : xs.length ≤ 140737488355328 := by omega
  clear hC q0
  have hS := Lib.hid (fun (w : World) (h : Buf w (.slice na m.length nk) m) => store_c (size := 4) hmo (by omega) hoff hx h)
  rw [h6] at hS
  have hSo := stS_ok hc 6 off x hx
  have hC1 := Lib.hid (fun b i (w : World) => check_c (stS c 6 off 4 x) b 6 i w)
  rw [ok_chk hSo] at hC1
  have hSe := Lib.hid (fun (w : World) (h : Buf w (.slice na m.length nk) m) (h2 : Buf w (.slice ra rn rc) xs) => Send_c hmo h h2 hl (by omega))
  unfold sendS at hSe
  rw [h6, ok_chk hc] at hSe
  simp only [if_true] at hSe
  have hC2 := Lib.hid (fun b i (w : World) => check_c (sendR c xs).c b 6 i w)
  rw [ok_chk (hc.send xs)] at hC2
  have hRe := Lib.hid (fun (w : World) (h : Buf w (.slice na m.length nk) m) (h2 : Buf w (.slice ra rn rc) xs) (h3 : Buf w (.slice fa fn fm) fs) => Receive_c hmo h h2 h3 hl (by omega))
  unfold recvS at hRe
  rw [h6, ok_chk hc] at hRe
  simp only [if_true] at hRe
  have hC3 := Lib.hid (fun b i (w : World) => check_c (recvR c xs fs).c b 6 i w)
  rw [ok_chk (hc.recv xs fs)] at hC3
  have hl1 := sendR_len c xs
  have hl2 := recvR_len c xs fs
  have hfr := sendR_frame c xs
  rw [← hrn] at hl1 hl2
  generalize stS c 6 off 4 x = c1 at *
  generalize badL c 6 off 4 = bl at *
  generalize (sendR c xs).c = c2 at *
  generalize (sendR c xs).xs = ys at *
  generalize (sendR c xs).f = ff at *
  generalize (sendR c xs).b = ok2 at *
  generalize (recvR c xs fs).c = c3 at *
  generalize (recvR c xs fs).xs = zs at *
  generalize (recvR c xs fs).b = ok3 at *
  have HN := Lib.hid hN
  have HR := Lib.hid hR
  have HF := Lib.hid hF
  have HL1 := Lib.hid hl1
  have HL2 := Lib.hid hl2
  have HFR := Lib.hid hfr
  clear hN hR hF hc hmo hSo hl hl1 hl2 hfr hrn h6 hoff hx
  go_enter Try.func7, Try.ntmps7
  go_upto_region 1 with fail
  have kN : Blk ((W.alloc (.cells (ncA c (.slice na 6 nk)) 25)).alloc (.cells #[.slice ra rn rc] 27)) W.heap.size (ncA c (.slice na 6 nk)) 25 := (Blk.new W (ncA c (.slice na 6 nk)) 25 _ rfl).alloc (.cells #[.slice ra rn rc] 27)
  have kM : Blk ((W.alloc (.cells (ncA c (.slice na 6 nk)) 25)).alloc (.cells #[.slice ra rn rc] 27)) (W.heap.size + 1) #[.slice ra rn rc] 27 := Blk.new (W.alloc (.cells (ncA c (.slice na 6 nk)) 25)) #[.slice ra rn rc] 27 _ (by simp)
  have g0 : Grew W ((W.alloc (.cells (ncA c (.slice na 6 nk)) 25)).alloc (.cells #[.slice ra rn rc] 27)) := ((Grew.refl W).alloc (.cells (ncA c (.slice na 6 nk)) 25)).alloc (.cells #[.slice ra rn rc] 27)
  generalize ((W.alloc (.cells (ncA c (.slice na 6 nk)) 25)).alloc (.cells #[.slice ra rn rc] 27)) = w0 at *
  have lN : W.heap.size ≤ W.heap.size := by omega
  have lM : W.heap.size ≤ (W.heap.size + 1) := by omega
  have nNM : W.heap.size ≠ (W.heap.size + 1) := by omega
  have nMN : (W.heap.size + 1) ≠ W.heap.size := by omega
  generalize (W.heap.size + 1) = M at *
  generalize hZ : W.heap.size = N at *
  have HZ := Lib.hid hZ
  clear hZ
  have LN : Hid (W.heap.size ≤ N) := Lib.hid (by rw [HZ.out]; exact lN)
  have LM : Hid (W.heap.size ≤ M) := Lib.hid (by rw [HZ.out]; exact lM)
  have y0 := kM.cell 0
  go_wp2_with (refine lw_nc (by rfl) (.tmp 5) rfl _ rfl kN (by rfl) ?_)
  refine (HC.out _).mono ?_
  rintro e w1 ⟨rfl, g1⟩
  have kN := kN.grew g1
  have kM := kM.grew g1
  have G3 := g0.trans g1
  clear y0 g0 g1
  go_upto_region 3 with fail
  go_wp2_with (refine ld_nc rfl (.tmp 5) rfl _ rfl kN (by rfl) ?_)
  refine (hS.out _ (HN.out.grew G3)).mono ?_
  rintro e w2 ⟨b1, j1, rfl, HA, g2⟩
  replace kN := kN.grew g2
  replace kM := kM.grew g2
  replace G3 := G3.trans g2
  clear g2 HA
  go_upto_region 4 with (first | (refine al_nc rfl rfl ?_; intro wa kA0 gA) | (refine st_nc rfl (.tmp 11) (.tmp 40) rfl rfl c1 kA0 rfl (by rfl) (by rfl) ⟨_, _, _, rfl⟩ ?_; intro wb kA oA))
  have gab : Grew w2 wb := oA.grew gA (Nat.le_refl _)
  replace kN := kN.grew gab
  replace kM := kM.grew gab
  replace G3 := G3.trans gab
  clear gab kA0 gA oA
  generalize w2.heap.size = A at *
  go_wp2_with (first | (refine ld_nc rfl (.tmp 5) rfl _ rfl kN (by rfl) ?_) | (refine ld_rm rfl (.tmp 6) rfl _ rfl kM (by rfl) ?_))
  refine (hSe.out _ (HN.out.grew G3) (HR.out.grew G3)).mono ?_
  rintro e w3 ⟨s1, s2, s3, s4, s5, s6, s7, s8, rfl, P1, P2, P3, g3⟩
  have e4 := P2.out.lenEq.1
  have HE7 := Lib.hid (P3.out.lenEq.1)
  rw [HL1.out] at e4
  subst e4
  replace kN := kN.grew g3
  replace kM := kM.grew g3
  replace kA := kA.grew g3
  replace G3 := G3.trans g3
  clear g3 P1 P2 P3
  go_upto_region 5 with (first | (refine al_nc rfl rfl ?_; intro wa kB0 gB) | (refine al_rm rfl rfl ?_; intro wc kD0 gD) | (refine st_nc rfl (.tmp 13) (.tmp 46) rfl rfl c2 (kB0.grew gD) rfl (by rfl) (by rfl) ⟨_, _, _, rfl⟩ ?_; intro wd kB oB) | (refine st_rm rfl (.tmp 14) (.tmp 47) rfl rfl (kD0.only oB (by have := kB0.lt; omega)) rfl (by rfl) (by rfl) ⟨_, _, _, rfl⟩ ?_; intro we kD oD))
  have gbe : Grew w3 we := oD.grew (oB.grew (gB.trans gD) (Nat.le_refl _)) gB.size
  have kB := kB.only oD (by have := kB0.lt; omega)
  replace kN := kN.grew gbe
  replace kM := kM.grew gbe
  replace kA := kA.grew gbe
  replace G3 := G3.trans gbe
  clear gbe kB0 gB kD0 gD oB oD
  generalize w3.heap.size = B at *
  generalize wa.heap.size = D at *
  go_wp2_with (first | (refine ld_nc rfl (.tmp 5) rfl _ rfl kN (by rfl) ?_) | (refine ld_rm rfl (.tmp 6) rfl _ rfl kM (by rfl) ?_))
  refine (hRe.out _ (HN.out.grew G3) (HR.out.grew G3) (HF.out.grew G3)).mono ?_
  rintro e w4 ⟨t1, t2, t3, t4, t5, rfl, Q1, Q2, g4⟩
  have e5 := Q2.out.lenEq.1
  rw [HL2.out] at e5
  subst e5
  replace kN := kN.grew g4
  replace kM := kM.grew g4
  replace kA := kA.grew g4
  replace kB := kB.grew g4
  replace kD := kD.grew g4
  replace G3 := G3.trans g4
  clear g4 Q1 Q2
  go_upto_region 6 with (first | (refine al_nc rfl rfl ?_; intro wf kE0 gE) | (refine al_rm rfl rfl ?_; intro wg kF0 gF) | (refine st_nc rfl (.tmp 17) (.tmp 55) rfl rfl c3 (kE0.grew gF) rfl (by rfl) (by rfl) ⟨_, _, _, rfl⟩ ?_; intro wh kE oE) | (refine st_rm rfl (.tmp 18) (.tmp 56) rfl rfl (kF0.only oE (by have := kE0.lt; omega)) rfl (by rfl) (by rfl) ⟨_, _, _, rfl⟩ ?_; intro wi kF oF))
  have gei : Grew w4 wi := oF.grew (oE.grew (gE.trans gF) (Nat.le_refl _)) gE.size
  have kE := kE.only oF (by have := kE0.lt; omega)
  replace kN := kN.grew gei
  replace kM := kM.grew gei
  replace kA := kA.grew gei
  replace kB := kB.grew gei
  replace kD := kD.grew gei
  replace G3 := G3.trans gei
  clear gei kE0 gE kF0 gF oE oF
  generalize w4.heap.size = E at *
  generalize wf.heap.size = FF at *
  go_wp2_with (refine ld_nc rfl (.tmp 11) rfl _ rfl kA (by rfl) ?_)
  refine (hC1.out _ _ _).mono ?_
  rintro e w5 ⟨rfl, g5⟩
  replace kM := kM.grew g5
  replace kB := kB.grew g5
  replace kD := kD.grew g5
  replace kE := kE.grew g5
  replace kF := kF.grew g5
  replace G3 := G3.trans g5
  clear g5
  go_wp2_with (refine lw_nc (by rfl) (.tmp 13) rfl _ rfl kB (by rfl) ?_)
  refine (hC2.out _ _ _).mono ?_
  rintro e w6 ⟨rfl, g6⟩
  replace kM := kM.grew g6
  replace kD := kD.grew g6
  replace kE := kE.grew g6
  replace kF := kF.grew g6
  replace G3 := G3.trans g6
  clear g6
  go_wp2_with (refine lw_nc (by rfl) (.tmp 17) rfl _ rfl kE (by rfl) ?_)
  refine (hC3.out _ _ _).mono ?_
  rintro e w7 ⟨rfl, g7⟩
  replace kM := kM.grew g7
  replace kD := kD.grew g7
  replace kF := kF.grew g7
  replace G3 := G3.trans g7
  clear g7
  have y0 := kM.cell 0
  have y1 := kD.cell 0
  have y2 := kF.cell 0
  have hfr := HFR.out
  rw [← HE7.out] at hfr
  by_cases hz : s7 = 0
  · subst hz
    clear hfr
    go_wp2_with fail
    refine (heads_c G3).mono ?_
    rintro e wh ⟨rfl, gh⟩
    go_wp2_with fail
    go_ret
    exact ⟨rfl, gh⟩
  · have q1 : ((s7 : Int) ≤ 1514) := by omega
    have q2 : ((s7 : Int) == 0) = false := by simp; omega
    have q3 : ((14 : Int) ≤ s7) := by omega
    clear hz hfr
    go_wp2_with fail
    refine (heads_c G3).mono ?_
    rintro e wh ⟨rfl, gh⟩
    go_wp2_with fail
    go_ret
    exact ⟨rfl, gh⟩
theorem walk (c : Nat → Int) (m : List Int) (na : Option Addr) (nk : Nat) (ra : Option Addr) (rn rc : Nat) (xs : List Int) (fv : Value) (fs : List Int) (off : Int) (hoff : 0 ≤ off ∧ off < 18446744073709551616) (x : Int) (hx : 0 ≤ x ∧ x < 18446744073709551616) (W : World) (hN : Buf W (.slice na m.length nk) m) (hmo : MacOf c m) (_hfit : m.length ≤ 140737488355328) (hR : Buf W (.slice ra rn rc) xs) (hF : Buf W fv fs) :
    Calls Try.prog 7 #[ncV c (.slice na m.length nk), .agg #[.slice ra rn rc], fv, .int .u64 off, .int .u64 x] W fun e w' => e = .returned (.bool true) ∧ Below W.heap.size W w' := by
  obtain ⟨fa, fm, rfl, _, _⟩ := hF.shape
  cases hb : (decide ((70000 : Int) < (rn : Nat)) || decide ((3000 : Int) < (fs.length : Nat)) || !chkB c m.length)
  · simp only [Bool.or_eq_false_iff, decide_eq_false_iff_not, Bool.not_eq_false'] at hb
    obtain ⟨⟨h1, h2⟩, h3⟩ := hb
    obtain ⟨hc, hi⟩ := chk_ok hmo hN.ok h3
    have h6 := hi.1
    rw [h6] at hN ⊢
    exact walk_near c m na nk ra rn rc xs fa fs.length fm fs off x hoff.1 hx.1 W hN h6 hmo hc hR hF h1 h2
  · exact walk_far c m.length na nk ra rn rc fa fs.length fm off x W _ _ _ rfl rfl rfl hb
set_option maxRecDepth 100000 in
theorem lifted (os : Os) (started : os.Started) (H : Type) (enc : TypeId × Value → H) :
    ReturnsInHanded {} Try.checked os 7 .any (Rows.nicStaysSpec.pre6 enc Try.prog Try.f7 Rows.nicStaysRow.domain false) (Rows.nicStaysSpec.post enc Try.prog Try.f7 false true false false) := by
  refine returnsInHanded_of_change_sized (C := Try.checked) own started (by kernel_rfl) Try.func7
    (ChangeSpec.witness6 (enc := enc) (C := Try.checked) false ⟨#[], #[.agg #[.int .i64 0, .int .i64 0, .int .i64 0, .int .u64 0, .int .i64 0, .int .i64 0, .int .i64 0, .int .u64 0, .int .i64 0, .int .i64 0, .int .i64 0, .int .i64 0, .int .i64 0, .slice none 0 0], .agg #[.slice none 0 0], .slice none 0 0, .int .u64 0, .int .u64 0], []⟩ 8 (by kernel_rfl) (by kernel_rfl) (by kernel_rfl) (by kernel_rfl)) ?_
  intro W base args ds gs before hval0 hW _ hz0 _
  have hval : ∀ (j : Nat) t v, Try.f7.params[j]? = some t → args[j]? = some v → Value.okWide Try.prog W .any base t v := hval0
  have hW' := hW
  obtain ⟨p, q, hA0, hV, rfl, hfz, hnd⟩ := hW
  have hA : DataW.TrodAll enc Try.prog W 0 (fun _ => true) true Try.f7.params.toList args.toList ds p := hA0
  rw [Try.params7] at hA hval
  obtain ⟨v0, vs0, d0, ds0, p0, q0, hargs, rfl, rfl, h0, r'0⟩ := trodAll_cons hA
  obtain ⟨v1, vs1, d1, ds1, p1, q1, rfl, rfl, rfl, h1, r'1⟩ := trodAll_cons r'0
  obtain ⟨v2, vs2, d2, ds2, p2, q2, rfl, rfl, rfl, h2, r'2⟩ := trodAll_cons r'1
  obtain ⟨v3, vs3, d3, ds3, p3, q3, rfl, rfl, rfl, h3, r'3⟩ := trodAll_cons r'2
  obtain ⟨v4, vs4, d4, ds4, p4, q4, rfl, rfl, rfl, h4, r'4⟩ := trodAll_cons r'3
  obtain ⟨rfl, rfl, rfl⟩ := trodAll_nil r'4
  obtain rfl : args = #[v0, v1, v2, v3, v4] := by cases args; simp_all
  obtain ⟨c0, m0, na0, nk0, rfl, k0, mo0, f0⟩ := open_nic (hval 0 25 v0 rfl rfl) h0
  have fits0 := f0 (fun m hm => by simpa using List.all_eq_true.1 hz0 _ (DataW.weights_mem_each (j := 0) (t := 25) rfl rfl m hm))
  obtain ⟨a1, n1, c1, x1, rfl, k1⟩ := open_ram (hval 1 27 v1 rfl rfl) h1
  obtain ⟨x2, k2⟩ := open_buf Try.underlying23 Try.underlying5 (by kernel_rfl) (hval 2 23 v2 rfl rfl) h2
  obtain ⟨a3, rfl, rfl, rfl, w3⟩ := open_int Try.underlying22 (hval 3 22 v3 rfl rfl) h3
  obtain ⟨a4, rfl, rfl, rfl, w4⟩ := open_int Try.underlying22 (hval 4 22 v4 rfl rfl) h4
  refine (walk c0 m0 na0 nk0 a1 n1 c1 x1 v2 x2 a3 (wf_u64 w3) a4 (wf_u64 w4) W k0 mo0 fits0 k1 k2).mono fun e W' ⟨he, hb⟩ => ?_
  subst he
  exact ⟨_, rfl, law_post hW' rfl rfl laid (by kernel_rfl) rfl Try.underlying4 hb⟩

theorem over : Rows.nicStaysRow.holds Try.pinned (OpenSpec.ofChange Rows.nicStaysSpec) :=
  OpenClaim.holds_of_wide 7 Try.f7 rfl rfl rfl rfl rfl rfl rfl ⟨rfl, rfl, rfl, rfl, rfl⟩ rfl rfl rfl rfl rfl (by kernel_rfl) Try.func7 (by kernel_rfl)
    (of_decide_eq_true (by kernel_rfl)) (by unfold Func.isWrapper; first | (rw [if_pos (by decide +kernel)]; kernel_rfl) | (rw [if_neg (by decide +kernel)]; exact ⟨rfl, rfl⟩))
    (fun os started H enc _ => lifted os started H enc)

theorem proved : Rows.NicStaysSaid := over
#print axioms proved
end Go.Proofs.Ythmaaellpfoaiaa.nicStays
