/-
  The statement that nothing of memory is another but the marks A and D of one entry, and that a page whose marks are there is not written at all. For every memory, registers, privilege, address, kind. Conditions: none.
-/
import Derived.Test.YtocmningcpcmiaaRows
import Derived.Test.YtocmningcpcmiaaSvP
import Derived.Test.YtocmningcpcmiaaLaw
import Derived.Deep.QuietTactic
import Derived.BigQuiet
import Derived.LoopTactic
import Derived.Test.YtocmningcpcmiaaBitsA
import Derived.Deep.DeepCutAuto
set_option linter.unusedVariables false
set_option linter.unusedSimpArgs false
namespace Go.Proofs.Ytocmningcpcmiaa.sv39Marks
open Go.ChangeShapes Go.WideShapes Go.ChangeAt Go.RowKit

theorem outs (P : Pages) {w : World} {v : Value} {xs : List Int} {t st p x k : Int} (h1 : 0 ≤ t ∧ t < 18446744073709551616) (h2 : 0 ≤ st ∧ st < 18446744073709551616) (h3 : 0 ≤ x ∧ x < 18446744073709551616) (hb : Buf w v xs) (hl : xs.length ≤ 140737488355328) (s : Sv) (hs : svV xs t st p x k = s) :
    Calls Try.prog 9 #[.agg #[v], .int .u64 t, .int .u64 st, .int .i64 p, .int .u64 x, .int .i64 k] w fun e w' => ∃ a n c, e = .returned (.tuple #[.int .u64 s.addr, .agg #[.slice a n c], .int .i64 s.cause, .bool s.ok]) ∧ Hid (Buf w' (.slice a n c) s.mem) ∧ Grew w w' :=
  P.at s hs h1.1 h1.2 h2.1 h2.2 h3.1 h3.2 hb hl

theorem walk_big (P : Pages) (a : Option Addr) (n c : Nat) (t st p x k : Int) (hn : 70000 < n) (hm : n ≤ maxLen) (W : World) :
    Calls Try.prog 7 #[.agg #[.slice a n c], .int .u64 t, .int .u64 st, .int .i64 p, .int .u64 x, .int .i64 k] W fun e w' => e = .returned (.bool true) ∧ Below W.heap.size W w' := by
  unfold maxLen at hm
  have hn' : (70000 : Int) < (n : Int) := by omega
  clear hn
  go_enter Try.func7, Try.ntmps7
  go_wp2_with fail
  refine (heads_c P _).mono ?_
  rintro e w6 ⟨rfl, g6⟩
  go_wp2_with fail
  go_ret
  exact ⟨rfl, ((Grew.refl W).alloc _).trans g6⟩

/-! ### What a mark is, as the statement looks at it -/
theorem mk_or (b : Nat) (hb : b < 256) (k : Int) : bits .or .u8 ((markB b k : Nat) : Int) 192 = bits .or .u8 (b : Int) 192 := by
  unfold markB
  split
  · exact (by decide +kernel : ∀ b : Fin 256, bits .or .u8 ((b.val ||| 64 ||| 128 : Nat) : Int) 192 = bits .or .u8 ((b.val : Nat) : Int) 192) ⟨b, hb⟩
  · exact (by decide +kernel : ∀ b : Fin 256, bits .or .u8 ((b.val ||| 64 : Nat) : Int) 192 = bits .or .u8 ((b.val : Nat) : Int) 192) ⟨b, hb⟩
theorem mk_and (b : Nat) (hb : b < 256) (k : Int) : bits .and .u8 ((markB b k : Nat) : Int) (b : Int) = (b : Int) := by
  unfold markB
  split
  · exact (by decide +kernel : ∀ b : Fin 256, bits .and .u8 ((b.val ||| 64 ||| 128 : Nat) : Int) ((b.val : Nat) : Int) = ((b.val : Nat) : Int)) ⟨b, hb⟩
  · exact (by decide +kernel : ∀ b : Fin 256, bits .and .u8 ((b.val ||| 64 : Nat) : Int) ((b.val : Nat) : Int) = ((b.val : Nat) : Int)) ⟨b, hb⟩
theorem mk_d (b : Nat) (hb : b < 256) (k : Int) (hk : ¬ k = 2) : bits .and .u8 ((markB b k : Nat) : Int) 128 = bits .and .u8 (b : Int) 128 := by
  unfold markB
  rw [if_neg hk]
  exact (by decide +kernel : ∀ b : Fin 256, bits .and .u8 ((b.val ||| 64 : Nat) : Int) 128 = bits .and .u8 ((b.val : Nat) : Int) 128) ⟨b, hb⟩
/-- What is known of two bytes that differ. -/
structure Marked (s r k : Int) : Prop where
  o : bits .or .u8 s 192 = bits .or .u8 r 192
  a : bits .and .u8 s r = r
  d : ¬ k = 2 → bits .and .u8 s 128 = bits .and .u8 r 128

set_option maxRecDepth 100000 in
set_option maxHeartbeats 8000000 in
theorem walk_with (P : Pages) (a : Option Addr) (n c : Nat) (t st p x k z cz : Int) (b : Bool) (xs zs : List Int) (lo : Nat) (hlo : lo % 8 = 0) (hzs : zs.length = n) (hn : n ≤ 70000)
    (hm : ∀ j, j < n → zs.getD j 0 = xs.getD j 0 ∨ (j = lo ∧ Marked (zs.getD j 0) (xs.getD j 0) k)) (W : World) (hb : Buf W (.slice a n c) xs)
    (r1 : ∀ w v, Grew W w → Buf w v xs → Calls Try.prog 9 #[.agg #[v], .int .u64 t, .int .u64 st, .int .i64 p, .int .u64 x, .int .i64 k] w fun e w' => ∃ a n c, e = .returned (.tuple #[.int .u64 z, .agg #[.slice a n c], .int .i64 cz, .bool b]) ∧ Hid (Buf w' (.slice a n c) zs) ∧ Grew w w') :
    Calls Try.prog 7 #[.agg #[.slice a n c], .int .u64 t, .int .u64 st, .int .i64 p, .int .u64 x, .int .i64 k] W fun e w' => e = .returned (.bool true) ∧ Below W.heap.size W w' := by
  have R1 := Lib.hid r1
  have HB := Lib.hid hb
  have HZ := Lib.hid hzs
  have HM := Lib.hid hm
  have HLO := Lib.hid hlo
  have HX := Lib.hid hb.lenEq.1
  have hn' : (n : Int) ≤ 70000 := by omega
  clear r1 hb hzs hm hlo
  go_enter Try.func7, Try.ntmps7
  go_upto_region 1 with fail
  have hA : Blk (W.alloc (.cells #[.slice a n c] 24)) W.heap.size #[.slice a n c] 24 := Blk.new W _ _ _ rfl
  have g0 : Grew W (W.alloc (.cells #[.slice a n c] 24)) := (Grew.refl W).alloc _
  generalize (W.alloc (.cells #[.slice a n c] 24)) = w0 at *
  have cA := (hA).cell 0
  go_wp2_with fail
  refine (R1.out _ _ g0 (HB.out.grew g0)).mono ?_
  rintro e w1 h1
  obtain ⟨aC, nC, cC, rfl, hC, g1⟩ := h1
  clear cA
  go_upto_region 4 with fail
  have bC : Blk (w1.alloc (.cells #[.slice aC nC cC] 24)) w1.heap.size #[.slice aC nC cC] 24 := Blk.new _ _ _ _ rfl
  have s2 : Grew w0 (w1.alloc (.cells #[.slice aC nC cC] 24)) := g1.alloc _
  have HC := Lib.hid (takes_box hC.out #[.slice aC nC cC] 24)
  generalize (w1.alloc (.cells #[.slice aC nC cC] 24)) = w2 at *
  generalize w1.heap.size = BC at *
  obtain rfl : nC = n := by rw [HC.out.lenEq.1, HZ.out]
  have HR := Lib.hid (HB.out.grew (g0.trans s2))
  have cA := (hA.grew s2).cell 0
  have cC := bC.cell 0
  have G2 := g0.trans s2
  go_wp2_with fail
  go_loopw [17, 18] (fun cnt i wr => ∃ (j m : Nat) (cn : Int), j ≤ nC ∧ i = .int .i64 j ∧ cnt = .int .i64 cn ∧ 0 ≤ cn ∧ cn ≤ 1 ∧ Hid (j ≤ lo → cn = 0) ∧ wr = w2.drewN m) (fun _ i _ => nC - (intOf i).toNat)
  case atStart => exact ⟨0, 0, 0, Nat.zero_le _, rfl, rfl, by omega, by omega, fun _ => rfl, rfl⟩
  case round =>
    obtain ⟨j, m, cn, hj, rfl, rfl, cn0, cn1, hcn, rfl⟩ := hrel
    by_cases hlt : j < nC
    · obtain ⟨aS, cS, eS, _, haS⟩ := HC.out.shape
      obtain ⟨aR, cR, eR, _, haR⟩ := HR.out.shape
      simp only [Value.slice.injEq] at eS eR
      obtain ⟨rfl, qS, rfl⟩ := eS
      obtain ⟨rfl, qR, rfl⟩ := eR
      clear qS qR
      obtain ⟨bS, oS, rfl, hS⟩ := haS (List.length_pos_iff.1 (by rw [HZ.out]; omega))
      obtain ⟨bR, oR, rfl, hR⟩ := haR (List.length_pos_iff.1 (by rw [← HX.out]; omega))
      have cS1 := hS j (by rw [HZ.out]; exact hlt)
      have cR1 := hR j (by rw [← HX.out]; exact hlt)
      have hmj := HM.out j hlt
      have hs0 := HC.out.ok.getD j
      have hr0 := HR.out.ok.getD j
      generalize zs.getD j 0 = sj at *
      generalize xs.getD j 0 = rj at *
      have hltI : (j : Int) < (nC : Int) := by omega
      clear haS haR hS hR
      by_cases he : sj = rj
      · subst he
        have e0 : (sj == sj) = true := by simp
        clear hmj
        go_wp2_with fail
        go_quiet (fail)
        go_wp2_with fail
        go_roundw
        case rel => exact ⟨j + 1, _, cn, by omega, by go_num, rfl, cn0, cn1, (show _ → _ from fun h => hcn.out (by omega)), rfl⟩
        case measure => simp [intOf]; omega
      · obtain ⟨rfl, hmk⟩ := hmj.resolve_left he
        have hc0 := hcn.out (Nat.le_refl _)
        subst hc0
        have e0 : (sj == rj) = false := by simpa using he
        have o1 := hmk.o
        have a1 := hmk.a
        have ed : ∀ q : Int, (q != q) = false := fun q => by simp
        have hmod : (j : Int).tmod 8 = 0 := by
          rw [Int.tmod_eq_emod_of_nonneg (by omega)]
          have := HLO.out
          omega
        by_cases hk : k = 2
        · subst hk
          clear hmk
          go_wp2_with fail
          go_quiet (fail)
          go_wp2_with fail
          go_quiet (fail)
          go_wp2_with fail
          go_roundw
          case rel => exact ⟨j + 1, _, 1, by omega, by go_num, rfl, by omega, by omega, (show _ → _ from fun h => absurd h (by omega)), rfl⟩
          case measure => simp [intOf]; omega
        · have ek : (k != 2) = true := by simpa using hk
          have d1 := hmk.d hk
          clear hmk
          go_wp2_with fail
          go_quiet (fail)
          go_wp2_with fail
          go_quiet (fail)
          go_wp2_with fail
          go_roundw
          case rel => exact ⟨j + 1, _, 1, by omega, by go_num, rfl, by omega, by omega, (show _ → _ from fun h => absurd h (by omega)), rfl⟩
          case measure => simp [intOf]; omega
    · obtain rfl : j = nC := by omega
      go_wp2_with fail
      refine (refAlign_c 8 8 (by omega) (by omega) _).mono ?_
      rintro e w3 ⟨rfl, h3⟩
      obtain rfl := h3.symm
      rw [show alignV 8 8 = true by decide]
      go_wp2_with fail
      refine (heads_c P _).mono ?_
      rintro e wh ⟨rfl, gh⟩
      go_wp2_with fail
      go_ret
      exact ⟨rfl, (G2.drewN m).trans gh⟩

theorem walk (a : Option Addr) (n c : Nat) (xs : List Int) (t : Int) (ht : 0 ≤ t ∧ t < 18446744073709551616) (st : Int) (hst : 0 ≤ st ∧ st < 18446744073709551616) (p : Int) (_hp : -9223372036854775808 ≤ p ∧ p ≤ 9223372036854775807) (x : Int) (hx : 0 ≤ x ∧ x < 18446744073709551616) (k : Int) (_hk : -9223372036854775808 ≤ k ∧ k ≤ 9223372036854775807) (W : World) (hb : Buf W (.slice a n c) xs) :
    Calls Try.prog 7 #[.agg #[.slice a n c], .int .u64 t, .int .u64 st, .int .i64 p, .int .u64 x, .int .i64 k] W fun e w' => e = .returned (.bool true) ∧ Below W.heap.size W w' := by
  obtain ⟨hn, _⟩ := hb.lenEq
  by_cases h7 : 70000 < n
  · exact walk_big pages a n c t st p x k h7 (by rw [hn]; exact hb.len) W
  have hl : xs.length ≤ 140737488355328 := by omega
  have hlen : (svV xs t st p x k).mem.length = xs.length := by
    unfold svV
    split
    · rfl
    · split
      · exact svGo_len _ _ _ _ _ _ _
      · rfl
  obtain ⟨lo, h8, hall⟩ := sv_marks hb.ok t st p x k
  refine walk_with pages a n c t st p x k _ _ _ xs (svV xs t st p x k).mem lo h8 (by rw [hlen, hn]) (by omega) (fun j hj => ?_) W hb (fun w v _ h => outs pages ht hst hx h hl (svV xs t st p x k) rfl)
  rcases hall j (by omega) with h | ⟨h1, h2⟩
  · exact .inl h
  · right
    refine ⟨h1, ?_⟩
    have hr := hb.ok.getD j
    obtain ⟨B, hB⟩ := Int.eq_ofNat_of_zero_le hr.1
    rw [h2, hB, Int.toNat_natCast]
    exact ⟨mk_or B (by omega) k, mk_and B (by omega) k, fun hk => mk_d B (by omega) k hk⟩
set_option maxRecDepth 100000 in
theorem lifted (os : Os) (started : os.Started) (H : Type) (enc : TypeId × Value → H) :
    ReturnsInHanded {} Try.checked os 7 .any (Rows.sv39MarksSpec.pre6 enc Try.prog Try.f7 Rows.sv39MarksRow.domain false) (Rows.sv39MarksSpec.post enc Try.prog Try.f7 false true false false) := by
  refine returnsInHanded_of_change (C := Try.checked) own started (by kernel_rfl) Try.func7
    (ChangeSpec.witness6 (enc := enc) (C := Try.checked) false ⟨#[], #[.agg #[.slice none 0 0], .int .u64 0, .int .u64 0, .int .i64 0, .int .u64 0, .int .i64 0], []⟩ 8 (by kernel_rfl) (by kernel_rfl) (by kernel_rfl) (by kernel_rfl)) ?_
  intro W base args ds gs before hval0 hW _ _
  have hval : ∀ (j : Nat) t v, Try.f7.params[j]? = some t → args[j]? = some v → Value.okWide Try.prog W .any base t v := hval0
  have hW' := hW
  obtain ⟨p, q, hA0, hV, rfl, hfz, hnd⟩ := hW
  have hA : DataW.TrodAll enc Try.prog W 0 (fun _ => true) true Try.f7.params.toList args.toList ds p := hA0
  rw [Try.params7] at hA hval
  obtain ⟨v0, vs0, d0, ds0, p0, q0, hargs, rfl, rfl, h0, r'0⟩ := trodAll_cons hA
  obtain ⟨v1, vs1, d1, ds1, p1, q1, rfl, rfl, rfl, h1, r'1⟩ := trodAll_cons r'0
  obtain ⟨v2, vs2, d2, ds2, p2, q2, rfl, rfl, rfl, h2, r'2⟩ := trodAll_cons r'1
  obtain ⟨v3, vs3, d3, ds3, p3, q3, rfl, rfl, rfl, h3, r'3⟩ := trodAll_cons r'2
  obtain ⟨v4, vs4, d4, ds4, p4, q4, rfl, rfl, rfl, h4, r'4⟩ := trodAll_cons r'3
  obtain ⟨v5, vs5, d5, ds5, p5, q5, rfl, rfl, rfl, h5, r'5⟩ := trodAll_cons r'4
  obtain ⟨rfl, rfl, rfl⟩ := trodAll_nil r'5
  obtain rfl : args = #[v0, v1, v2, v3, v4, v5] := by cases args; simp_all
  obtain ⟨a0, n0, c0, x0, rfl, k0⟩ := open_ram (hval 0 24 v0 rfl rfl) h0
  obtain ⟨a1, rfl, rfl, rfl, w1⟩ := open_int Try.underlying25 (hval 1 25 v1 rfl rfl) h1
  obtain ⟨a2, rfl, rfl, rfl, w2⟩ := open_int Try.underlying25 (hval 2 25 v2 rfl rfl) h2
  obtain ⟨a3, rfl, rfl, rfl, w3⟩ := open_int Try.underlying3 (hval 3 3 v3 rfl rfl) h3
  obtain ⟨a4, rfl, rfl, rfl, w4⟩ := open_int Try.underlying25 (hval 4 25 v4 rfl rfl) h4
  obtain ⟨a5, rfl, rfl, rfl, w5⟩ := open_int Try.underlying3 (hval 5 3 v5 rfl rfl) h5
  refine (walk a0 n0 c0 x0 a1 (wf_u64 w1) a2 (wf_u64 w2) a3 (wf_i64 w3) a4 (wf_u64 w4) a5 (wf_i64 w5) W k0).mono fun e W' ⟨he, hb⟩ => ?_
  subst he
  exact ⟨_, rfl, law_post hW' rfl rfl laid (by kernel_rfl) rfl Try.underlying4 hb⟩

theorem over : Rows.sv39MarksRow.holds Try.pinned (OpenSpec.ofChange Rows.sv39MarksSpec) :=
  OpenClaim.holds_of_wide 7 Try.f7 rfl rfl rfl rfl rfl rfl rfl ⟨rfl, rfl, rfl, rfl, rfl⟩ rfl rfl rfl rfl rfl (by kernel_rfl) Try.func7 (by kernel_rfl)
    (of_decide_eq_true (by kernel_rfl)) (by unfold Func.isWrapper; first | (rw [if_pos (by decide +kernel)]; kernel_rfl) | (rw [if_neg (by decide +kernel)]; exact ⟨rfl, rfl⟩))
    (fun os started H enc _ => lifted os started H enc)

theorem proved : Rows.Sv39MarksSaid := over
#print axioms proved
end Go.Proofs.Ytocmningcpcmiaa.sv39Marks
