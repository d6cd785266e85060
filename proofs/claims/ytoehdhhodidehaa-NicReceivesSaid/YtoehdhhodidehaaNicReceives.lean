/-
  The statement that says what a frame that comes makes; what is handed in stays. For every controller, memory and frame. Conditions: none.
-/
import Derived.Test.YtoehdhhodidehaaRows
import Derived.Test.YtoehdhhodidehaaNcY
import Derived.Test.YtoehdhhodidehaaNcRy
import Derived.Test.YtoehdhhodidehaaLaw
import Derived.Test.YtoehdhhodidehaaNcRu
import Derived.Deep.QuietTactic
import Derived.BigQuiet
import Derived.Deep.DeepCutAuto
import Derived.BigFrame
set_option maxRecDepth 4000
set_option linter.unusedVariables false
set_option linter.unusedSimpArgs false
namespace Go.Proofs.Ytoehdhhodidehaa.nicReceives
open Go.ChangeShapes Go.WideShapes Go.ChangeAt Go.RowKit Go.Proofs.Ytoehdhhodidehaa
set_option maxHeartbeats 2000000 in
theorem walk_far (c : Nat → Int) (nn : Nat) (na : Option Addr) (nk : Nat) (ra : Option Addr) (rn rc : Nat) (fa : Option Addr) (fn fk : Nat) (W : World) (h1 : (70000 : Int) < (rn : Nat)) : Calls Try.prog 6 #[ncV c (.slice na nn nk), .agg #[.slice ra rn rc], .slice fa fn fk] W fun e w' => e = .returned (.bool true) ∧ Below W.heap.size W w' := by
  go_enter Try.func6, Try.ntmps6
  go_upto_region 1 with fail
  have kN : Blk ((W.alloc (.cells (ncA c (.slice na nn nk)) 25)).alloc (.cells #[.slice ra rn rc] 27)) W.heap.size (ncA c (.slice na nn nk)) 25 := (Blk.new _ _ _ _ rfl).alloc _
  have kM : Blk ((W.alloc (.cells (ncA c (.slice na nn nk)) 25)).alloc (.cells #[.slice ra rn rc] 27)) (W.heap.size + 1) #[.slice ra rn rc] 27 := Blk.new _ _ _ _ (by simp)
  have g0 : Grew W ((W.alloc (.cells (ncA c (.slice na nn nk)) 25)).alloc (.cells #[.slice ra rn rc] 27)) := ((Grew.refl W).alloc _).alloc _
  generalize ((W.alloc (.cells (ncA c (.slice na nn nk)) 25)).alloc (.cells #[.slice ra rn rc] 27)) = w0 at *
  have nNM : W.heap.size ≠ W.heap.size + 1 := by omega
  generalize W.heap.size + 1 = M at *
  generalize hZ : W.heap.size = N at *
  have HZ := Lib.hid hZ
  clear hZ
  have y0 := kM.cell 0
  have d1 : decide ((70000 : Int) < (rn : Nat)) = true := decide_eq_true h1
  go_wp2_with fail
  refine (heads_c (Grew.refl _)).mono ?_
  rintro e wh ⟨rfl, gh⟩
  go_wp2_with fail
  go_ret
  exact ⟨rfl, g0.trans gh⟩
set_option maxHeartbeats 2000000 in
theorem walk_long (c : Nat → Int) (nn : Nat) (na : Option Addr) (nk : Nat) (ra : Option Addr) (rn rc : Nat) (fa : Option Addr) (fn fk : Nat) (W : World) (h1 : ¬ (70000 : Int) < (rn : Nat)) (h2 : (3000 : Int) < (fn : Nat)) : Calls Try.prog 6 #[ncV c (.slice na nn nk), .agg #[.slice ra rn rc], .slice fa fn fk] W fun e w' => e = .returned (.bool true) ∧ Below W.heap.size W w' := by
  go_enter Try.func6, Try.ntmps6
  go_upto_region 1 with fail
  have kN : Blk ((W.alloc (.cells (ncA c (.slice na nn nk)) 25)).alloc (.cells #[.slice ra rn rc] 27)) W.heap.size (ncA c (.slice na nn nk)) 25 := (Blk.new _ _ _ _ rfl).alloc _
  have kM : Blk ((W.alloc (.cells (ncA c (.slice na nn nk)) 25)).alloc (.cells #[.slice ra rn rc] 27)) (W.heap.size + 1) #[.slice ra rn rc] 27 := Blk.new _ _ _ _ (by simp)
  have g0 : Grew W ((W.alloc (.cells (ncA c (.slice na nn nk)) 25)).alloc (.cells #[.slice ra rn rc] 27)) := ((Grew.refl W).alloc _).alloc _
  generalize ((W.alloc (.cells (ncA c (.slice na nn nk)) 25)).alloc (.cells #[.slice ra rn rc] 27)) = w0 at *
  have nNM : W.heap.size ≠ W.heap.size + 1 := by omega
  generalize W.heap.size + 1 = M at *
  generalize hZ : W.heap.size = N at *
  have HZ := Lib.hid hZ
  clear hZ
  have y0 := kM.cell 0
  have d1 : decide ((70000 : Int) < (rn : Nat)) = false := decide_eq_false h1
  have d2 : decide ((3000 : Int) < (fn : Nat)) = true := decide_eq_true h2
  go_wp2_with fail
  refine (heads_c (Grew.refl _)).mono ?_
  rintro e wh ⟨rfl, gh⟩
  go_wp2_with fail
  go_ret
  exact ⟨rfl, g0.trans gh⟩
set_option maxHeartbeats 8000000 in
theorem walk_near (c c2 : Nat → Int) (m xs ys fs : List Int) (ob : Bool) (nn : Nat) (na : Option Addr) (nk : Nat) (ra : Option Addr) (rn rc : Nat) (fa : Option Addr) (fn fk : Nat) (W : World) (hN : Buf W (.slice na nn nk) m) (hR : Buf W (.slice ra rn rc) xs) (hF : Buf W (.slice fa fn fk) fs) (hl : xs.length ≤ 140737488355328) (h1 : ¬ (70000 : Int) < (rn : Nat)) (h2 : ¬ (3000 : Int) < (fn : Nat)) (hS : (∀ w b bn bi, Buf w (.slice na nn nk) m → Buf w (.slice b bn bi) xs → Buf w (.slice fa fn fk) fs → Calls Try.prog 27 #[ncV c (.slice na nn nk), .agg #[.slice b bn bi], .slice fa fn fk] w fun e w' => ∃ a1 k1 a2 n2 k2, e = .returned (.tuple #[ncV c2 (.slice a1 nn k1), .agg #[.slice a2 n2 k2], .bool ob]) ∧ Hid (Buf w' (.slice a1 nn k1) m) ∧ Hid (Buf w' (.slice a2 n2 k2) ys) ∧ Grew w w')) (hD : (∀ w b bn bi, Buf w (.slice na nn nk) m → Buf w (.slice b bn bi) xs → Buf w (.slice fa fn fk) fs → Calls Try.prog 28 #[ncV c (.slice na nn nk), .agg #[.slice b bn bi], .slice fa fn fk] w fun e w' => ∃ a1 k1 a2 n2 k2, e = .returned (.tuple #[ncV c2 (.slice a1 nn k1), .agg #[.slice a2 n2 k2], .bool ob]) ∧ Hid (Buf w' (.slice a1 nn k1) m) ∧ Hid (Buf w' (.slice a2 n2 k2) ys) ∧ Grew w w')) (hM : (∀ w b1 i1 b2 i2, Buf w (.slice b1 nn i1) m → Buf w (.slice b2 nn i2) m → Calls Try.prog 19 #[ncV c2 (.slice b1 nn i1), ncV c2 (.slice b2 nn i2)] w fun e w' => e = .returned (.bool true) ∧ Grew w w')) : Calls Try.prog 6 #[ncV c (.slice na nn nk), .agg #[.slice ra rn rc], .slice fa fn fk] W fun e w' => e = .returned (.bool true) ∧ Below W.heap.size W w' := by
  have HS := Lib.hid hS
  have HD := Lib.hid hD
  have HSM := Lib.hid hM
  have HN := Lib.hid hN
  have HR := Lib.hid hR
  have HF := Lib.hid hF
  have HO := Lib.hid (fun (w : World) (h : Buf w (.slice ra rn rc) xs) => lawOwn_c hl h)
  clear hS hD hM hN hR hF hl
  go_enter Try.func6, Try.ntmps6
  go_upto_region 1 with fail
  have kN : Blk ((W.alloc (.cells (ncA c (.slice na nn nk)) 25)).alloc (.cells #[.slice ra rn rc] 27)) W.heap.size (ncA c (.slice na nn nk)) 25 := (Blk.new _ _ _ _ rfl).alloc _
  have kM : Blk ((W.alloc (.cells (ncA c (.slice na nn nk)) 25)).alloc (.cells #[.slice ra rn rc] 27)) (W.heap.size + 1) #[.slice ra rn rc] 27 := Blk.new _ _ _ _ (by simp)
  have g0 : Grew W ((W.alloc (.cells (ncA c (.slice na nn nk)) 25)).alloc (.cells #[.slice ra rn rc] 27)) := ((Grew.refl W).alloc _).alloc _
  generalize ((W.alloc (.cells (ncA c (.slice na nn nk)) 25)).alloc (.cells #[.slice ra rn rc] 27)) = w0 at *
  have nNM : W.heap.size ≠ W.heap.size + 1 := by omega
  generalize W.heap.size + 1 = M at *
  generalize hZ : W.heap.size = N at *
  have HZ := Lib.hid hZ
  clear hZ
  have d1 : decide ((70000 : Int) < (rn : Nat)) = false := decide_eq_false h1
  have d2 : decide ((3000 : Int) < (fn : Nat)) = false := decide_eq_false h2
  have y0 := kM.cell 0
  go_upto_region 3 with fail
  clear y0 h1 h2 d1 d2
  go_wp2_with (refine ld_rm rfl (.tmp 4) rfl _ rfl kM (by rfl) ?_)
  refine (HO.out _ (HR.out.grew g0)).mono ?_
  rintro e w1 ⟨pb, pi, rfl, HP, g1⟩
  replace kN := kN.grew g1
  replace kM := kM.grew g1
  replace g0 := g0.trans g1
  clear g1
  have lS := g0.size
  have lN := kN.lt
  have lM := kM.lt
  go_upto_region 4 with (first | (refine al_rm rfl rfl ?_; intro w2 pP qP) | (refine st_rm rfl (.tmp 7) (.tmp 25) rfl rfl pP rfl (by rfl) (by rfl) ⟨_, _, _, rfl⟩ ?_; intro w3 kP oP))
  replace kN := (kN.grew qP).only oP (by omega)
  replace kM := (kM.grew qP).only oP (by omega)
  replace HP := Lib.hid ((HP.out.grew qP).only oP pP (nb_one _ (fun x h => by cases h)))
  replace g0 : Grew W w3 := oP.grew (g0.trans qP) lS
  clear lS lN lM pP qP oP
  generalize w1.heap.size = P at *
  go_wp2_with (first | refine ld_nc rfl (.tmp 3) rfl _ rfl kN (by rfl) ?_ | refine ld_rm rfl (.tmp 7) rfl _ rfl kP (by rfl) ?_)
  refine (HS.out _ _ _ _ (HN.out.grew g0) HP.out (HF.out.grew g0)).mono ?_
  rintro e w4 ⟨a1, k1, a2, n2, k2, rfl, A1, A2, g1⟩
  replace kN := kN.grew g1
  replace kM := kM.grew g1
  replace kP := kP.grew g1
  replace HP := Lib.hid (HP.out.grew g1)
  replace g0 := g0.trans g1
  clear g1
  have lZ := g0.size
  have lN := kN.lt
  have lM := kM.lt
  have lP := kP.lt
  go_upto_region 5 with (first | (refine al_nc rfl rfl ?_; intro xa pS qS) | (refine al_rm rfl rfl ?_; intro xb pT qT) | (have tS := pS.grew qT; have nS := Nat.ne_of_gt pS.lt; refine st_nc rfl (.tmp 8) (.tmp 31) rfl rfl c2 tS rfl (by rfl) (by rfl) ⟨_, _, _, rfl⟩ ?_; intro xc kS oS) | (refine st_rm rfl (.tmp 9) (.tmp 32) rfl rfl (pT.only oS nS) rfl (by rfl) (by rfl) ⟨_, _, _, rfl⟩ ?_; intro xd kT oT))
  have lS := pS.lt
  replace kN := ((kN.grew (qS.trans qT)).only oS (by omega)).only oT (by omega)
  replace kM := ((kM.grew (qS.trans qT)).only oS (by omega)).only oT (by omega)
  replace kP := ((kP.grew (qS.trans qT)).only oS (by omega)).only oT (by omega)
  replace kS := kS.only oT nS.symm
  replace HP := Lib.hid (((HP.out.grew (qS.trans qT)).only oS tS nb_zn).only oT (pT.only oS nS) (nb_one _ (fun x h => by cases h)))
  replace A1 := Lib.hid (((A1.out.grew (qS.trans qT)).only oS tS nb_zn).only oT (pT.only oS nS) (nb_one _ (fun x h => by cases h)))
  replace A2 := Lib.hid (((A2.out.grew (qS.trans qT)).only oS tS nb_zn).only oT (pT.only oS nS) (nb_one _ (fun x h => by cases h)))
  replace g0 : Grew W xd := oT.grew (oS.grew (g0.trans (qS.trans qT)) lZ) (by omega)
  clear lZ lS lN lM lP pS qS pT qT tS nS oS oT
  generalize xa.heap.size = T at *
  generalize w4.heap.size = S at *
  go_wp2_with (first | refine ld_nc rfl (.tmp 3) rfl _ rfl kN (by rfl) ?_ | refine ld_rm rfl (.tmp 4) rfl _ rfl kM (by rfl) ?_)
  refine (HD.out _ _ _ _ (HN.out.grew g0) (HR.out.grew g0) (HF.out.grew g0)).mono ?_
  rintro e w5 ⟨b1, j1, b2, m2, j2, rfl, B1, B2, g1⟩
  replace kN := kN.grew g1
  replace kM := kM.grew g1
  replace kP := kP.grew g1
  replace kS := kS.grew g1
  replace kT := kT.grew g1
  replace HP := Lib.hid (HP.out.grew g1)
  replace A1 := Lib.hid (A1.out.grew g1)
  replace A2 := Lib.hid (A2.out.grew g1)
  replace g0 := g0.trans g1
  clear g1
  have lZ := g0.size
  have lN := kN.lt
  have lM := kM.lt
  have lP := kP.lt
  have lS := kS.lt
  have lT := kT.lt
  go_upto_region 6 with (first | (refine al_nc rfl rfl ?_; intro ya pU qU) | (refine al_rm rfl rfl ?_; intro yb pV qV) | (have tU := pU.grew qV; have nU := Nat.ne_of_gt pU.lt; refine st_nc rfl (.tmp 11) (.tmp 39) rfl rfl c2 tU rfl (by rfl) (by rfl) ⟨_, _, _, rfl⟩ ?_; intro yc kU oU) | (refine st_rm rfl (.tmp 12) (.tmp 40) rfl rfl (pV.only oU nU) rfl (by rfl) (by rfl) ⟨_, _, _, rfl⟩ ?_; intro yd kV oV))
  have lU := pU.lt
  replace kN := ((kN.grew (qU.trans qV)).only oU (by omega)).only oV (by omega)
  replace kM := ((kM.grew (qU.trans qV)).only oU (by omega)).only oV (by omega)
  replace kP := ((kP.grew (qU.trans qV)).only oU (by omega)).only oV (by omega)
  replace kS := ((kS.grew (qU.trans qV)).only oU (by omega)).only oV (by omega)
  replace kT := ((kT.grew (qU.trans qV)).only oU (by omega)).only oV (by omega)
  replace kU := kU.only oV nU.symm
  replace HP := Lib.hid (((HP.out.grew (qU.trans qV)).only oU tU nb_zn).only oV (pV.only oU nU) (nb_one _ (fun x h => by cases h)))
  replace A1 := Lib.hid (((A1.out.grew (qU.trans qV)).only oU tU nb_zn).only oV (pV.only oU nU) (nb_one _ (fun x h => by cases h)))
  replace A2 := Lib.hid (((A2.out.grew (qU.trans qV)).only oU tU nb_zn).only oV (pV.only oU nU) (nb_one _ (fun x h => by cases h)))
  replace B1 := Lib.hid (((B1.out.grew (qU.trans qV)).only oU tU nb_zn).only oV (pV.only oU nU) (nb_one _ (fun x h => by cases h)))
  replace B2 := Lib.hid (((B2.out.grew (qU.trans qV)).only oU tU nb_zn).only oV (pV.only oU nU) (nb_one _ (fun x h => by cases h)))
  replace g0 : Grew W yd := oV.grew (oU.grew (g0.trans (qU.trans qV)) lZ) (by omega)
  clear lZ lU lN lM lP lS lT pU qU pV qV tU nU oU oV
  generalize ya.heap.size = V at *
  generalize w5.heap.size = U at *
  go_wp2_with (first | refine lw_nc (by rfl) (.tmp 8) rfl _ rfl kS (by rfl) ?_ | refine lw_nc (by rfl) (.tmp 11) rfl _ rfl kU (by rfl) ?_)
  refine (HSM.out _ _ _ _ _ A1.out B1.out).mono ?_
  rintro e w6 ⟨rfl, g1⟩
  replace kN := kN.grew g1
  replace kM := kM.grew g1
  replace kP := kP.grew g1
  replace kS := kS.grew g1
  replace kT := kT.grew g1
  replace kU := kU.grew g1
  replace kV := kV.grew g1
  replace HP := Lib.hid (HP.out.grew g1)
  replace A1 := Lib.hid (A1.out.grew g1)
  replace A2 := Lib.hid (A2.out.grew g1)
  replace B1 := Lib.hid (B1.out.grew g1)
  replace B2 := Lib.hid (B2.out.grew g1)
  replace g0 := g0.trans g1
  clear g1
  go_wp2_with (first | refine lw_rm (by rfl) (.tmp 9) rfl _ rfl kT (by rfl) ?_ | refine lw_rm (by rfl) (.tmp 12) rfl _ rfl kV (by rfl) ?_)
  refine (same_b _ A2.out B2.out rfl).mono ?_
  rintro e w7 ⟨rfl, g1⟩
  replace kN := kN.grew g1
  replace kM := kM.grew g1
  replace kP := kP.grew g1
  replace kS := kS.grew g1
  replace kT := kT.grew g1
  replace kU := kU.grew g1
  replace kV := kV.grew g1
  replace HP := Lib.hid (HP.out.grew g1)
  replace A1 := Lib.hid (A1.out.grew g1)
  replace A2 := Lib.hid (A2.out.grew g1)
  replace B1 := Lib.hid (B1.out.grew g1)
  replace B2 := Lib.hid (B2.out.grew g1)
  replace g0 := g0.trans g1
  clear g1
  go_wp2_with (first | refine lw_rm (by rfl) (.tmp 7) rfl _ rfl kP (by rfl) ?_ | refine lw_rm (by rfl) (.tmp 4) rfl _ rfl kM (by rfl) ?_)
  refine (same_b _ HP.out (HR.out.grew g0) rfl).mono ?_
  rintro e w9 ⟨rfl, g1⟩
  replace kN := kN.grew g1
  replace kM := kM.grew g1
  replace kP := kP.grew g1
  replace kS := kS.grew g1
  replace kT := kT.grew g1
  replace kU := kU.grew g1
  replace kV := kV.grew g1
  replace HP := Lib.hid (HP.out.grew g1)
  replace A1 := Lib.hid (A1.out.grew g1)
  replace A2 := Lib.hid (A2.out.grew g1)
  replace B1 := Lib.hid (B1.out.grew g1)
  replace B2 := Lib.hid (B2.out.grew g1)
  replace g0 := g0.trans g1
  clear g1
  go_wp2_with fail
  refine (heads_c (Grew.refl _)).mono ?_
  rintro e wh ⟨rfl, gh⟩
  go_wp2_with fail
  go_ret
  exact ⟨rfl, g0.trans gh⟩
theorem walk (c : Nat → Int) (m : List Int) (na : Option Addr) (nk : Nat) (ra : Option Addr) (rn rc : Nat) (xs : List Int) (v2 : Value) (fs : List Int) (W : World) (hN : Buf W (.slice na m.length nk) m) (hmo : MacOf c m) (hfit : m.length ≤ 140737488355328) (hR : Buf W (.slice ra rn rc) xs) (hF : Buf W v2 fs) :
    Calls Try.prog 6 #[ncV c (.slice na m.length nk), .agg #[.slice ra rn rc], v2] W fun e w' => e = .returned (.bool true) ∧ Below W.heap.size W w' := by
  obtain ⟨rfl, _⟩ := hR.lenEq
  obtain ⟨fa, fk, rfl, _, _⟩ := hF.shape
  by_cases h1 : (70000 : Int) < (xs.length : Nat)
  · exact walk_far c m.length na nk ra xs.length rc fa fs.length fk W h1
  by_cases h2 : (3000 : Int) < (fs.length : Nat)
  · exact walk_long c m.length na nk ra xs.length rc fa fs.length fk W h1 h2
  have hl : xs.length ≤ 140737488355328 := by omega
  exact walk_near c (recvS c m.length xs fs).c m xs (recvS c m.length xs fs).xs fs (recvS c m.length xs fs).b m.length na nk ra xs.length rc fa fs.length fk W hN hR hF hl h1 h2 (fun w b bn bi h1 h2 h3 => Receive_c hmo h1 h2 h3 hl hfit) (fun w b bn bi h1 h2 h3 => rRecv_c hmo h1 h2 h3 hl) (fun w b1 i1 b2 i2 h1 h2 => rSame_c h1 h2)
set_option maxRecDepth 100000 in
theorem lifted (os : Os) (started : os.Started) (H : Type) (enc : TypeId × Value → H) :
    ReturnsInHanded {} Try.checked os 6 .any (Rows.nicReceivesSpec.pre6 enc Try.prog Try.f6 Rows.nicReceivesRow.domain false) (Rows.nicReceivesSpec.post enc Try.prog Try.f6 false true false false) := by
  refine returnsInHanded_of_change_sized (C := Try.checked) own started (by kernel_rfl) Try.func6
    (ChangeSpec.witness6 (enc := enc) (C := Try.checked) false ⟨#[], #[.agg #[.int .i64 0, .int .i64 0, .int .i64 0, .int .u64 0, .int .i64 0, .int .i64 0, .int .i64 0, .int .u64 0, .int .i64 0, .int .i64 0, .int .i64 0, .int .i64 0, .int .i64 0, .slice none 0 0], .agg #[.slice none 0 0], .slice none 0 0], []⟩ 8 (by kernel_rfl) (by kernel_rfl) (by kernel_rfl) (by kernel_rfl)) ?_
  intro W base args ds gs before hval0 hW _ hz0 _
  have hval : ∀ (j : Nat) t v, Try.f6.params[j]? = some t → args[j]? = some v → Value.okWide Try.prog W .any base t v := hval0
  have hW' := hW
  obtain ⟨p, q, hA0, hV, rfl, hfz, hnd⟩ := hW
  have hA : DataW.TrodAll enc Try.prog W 0 (fun _ => true) true Try.f6.params.toList args.toList ds p := hA0
  rw [Try.params6] at hA hval
  obtain ⟨v0, vs0, d0, ds0, p0, q0, hargs, rfl, rfl, h0, r'0⟩ := trodAll_cons hA
  obtain ⟨v1, vs1, d1, ds1, p1, q1, rfl, rfl, rfl, h1, r'1⟩ := trodAll_cons r'0
  obtain ⟨v2, vs2, d2, ds2, p2, q2, rfl, rfl, rfl, h2, r'2⟩ := trodAll_cons r'1
  obtain ⟨rfl, rfl, rfl⟩ := trodAll_nil r'2
  obtain rfl : args = #[v0, v1, v2] := by cases args; simp_all
  obtain ⟨c0, m0, na0, nk0, rfl, k0, mo0, f0⟩ := open_nic (hval 0 25 v0 rfl rfl) h0
  have fits0 := f0 (fun m hm => by simpa using List.all_eq_true.1 hz0 _ (DataW.weights_mem_each (j := 0) (t := 25) rfl rfl m hm))
  obtain ⟨a1, n1, c1, x1, rfl, k1⟩ := open_ram (hval 1 27 v1 rfl rfl) h1
  obtain ⟨x2, k2⟩ := open_buf Try.underlying23 Try.underlying5 (by kernel_rfl) (hval 2 23 v2 rfl rfl) h2
  refine (walk c0 m0 na0 nk0 a1 n1 c1 x1 v2 x2 W k0 mo0 fits0 k1 k2).mono fun e W' ⟨he, hb⟩ => ?_
  subst he
  exact ⟨_, rfl, law_post hW' rfl rfl laid (by kernel_rfl) rfl Try.underlying4 hb⟩

theorem over : Rows.nicReceivesRow.holds Try.pinned (OpenSpec.ofChange Rows.nicReceivesSpec) :=
  OpenClaim.holds_of_wide 6 Try.f6 rfl rfl rfl rfl rfl rfl rfl ⟨rfl, rfl, rfl, rfl, rfl⟩ rfl rfl rfl rfl rfl (by kernel_rfl) Try.func6 (by kernel_rfl)
    (of_decide_eq_true (by kernel_rfl)) (by unfold Func.isWrapper; first | (rw [if_pos (by decide +kernel)]; kernel_rfl) | (rw [if_neg (by decide +kernel)]; exact ⟨rfl, rfl⟩))
    (fun os started H enc _ => lifted os started H enc)

theorem proved : Rows.NicReceivesSaid := over
#print axioms proved
end Go.Proofs.Ytoehdhhodidehaa.nicReceives
