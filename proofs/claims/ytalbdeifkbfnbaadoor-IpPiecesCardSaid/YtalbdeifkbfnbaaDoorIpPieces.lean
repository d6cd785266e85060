/-
  The statement IpPieces: that pieces together are the packet's data, in order, each fits, and all but the last one tell that there are more. For every packet and number. Conditions: none but those of the statement's row (the package variables as the text lays them).
-/
import Derived.Test.YtalbdeifkbfnbaaDoorIpH
import Derived.Test.YtalbdeifkbfnbaaDoorIpG2
import Derived.Test.YtalbdeifkbfnbaaDoorIpQ
import Derived.Test.YtalbdeifkbfnbaaDoorIpO
import Derived.Test.YtalbdeifkbfnbaaDoorIpL
import Derived.Test.YtalbdeifkbfnbaaDoorCards
import Derived.Test.YtalbdeifkbfnbaaDoorTie
import Derived.SevenTiedAt
set_option maxRecDepth 4000
set_option linter.unusedVariables false
set_option linter.unusedSimpArgs false
namespace Go.Proofs.YtalbdeifkbfnbaaDoor.ipPieces
open Go.ChangeShapes Go.WideShapes Go.ChangeAt Go.RowKit

theorem walk_far {f : PK} {p1 : Option Addr} {k1 : Nat} {p2 : Option Addr} {k2 : Nat} (mtu : Int) {W : World} (sn : SenW W) (h1 : (20000 : Int) < (f.x.length : Nat)) :
    Calls Tryd.prog 5 #[.agg #[.int .i64 f.tos, .int .i64 f.id, .int .i64 f.fl, .int .i64 f.off, .int .i64 f.ttl, .int .i64 f.pr, .int .u32 f.si, .int .u32 f.di, .slice p1 f.o.length k1, .slice p2 f.x.length k2], .int .i64 mtu] W fun e w' => e = .returned (.bool true) ∧ Below W.heap.size W w' := by
  go_enter Tryd.func5, Tryd.ntmps5
  go_upto_region 1 with fail
  have hB : Blk (W.alloc (.cells #[.int .i64 f.tos, .int .i64 f.id, .int .i64 f.fl, .int .i64 f.off, .int .i64 f.ttl, .int .i64 f.pr, .int .u32 f.si, .int .u32 f.di, .slice p1 f.o.length k1, .slice p2 f.x.length k2] 25)) W.heap.size #[.int .i64 f.tos, .int .i64 f.id, .int .i64 f.fl, .int .i64 f.off, .int .i64 f.ttl, .int .i64 f.pr, .int .u32 f.si, .int .u32 f.di, .slice p1 f.o.length k1, .slice p2 f.x.length k2] 25 := Blk.new _ _ _ _ rfl
  have g0 : Grew W (W.alloc (.cells #[.int .i64 f.tos, .int .i64 f.id, .int .i64 f.fl, .int .i64 f.off, .int .i64 f.ttl, .int .i64 f.pr, .int .u32 f.si, .int .u32 f.di, .slice p1 f.o.length k1, .slice p2 f.x.length k2] 25)) := (Grew.refl _).alloc _
  generalize (W.alloc (.cells #[.int .i64 f.tos, .int .i64 f.id, .int .i64 f.fl, .int .i64 f.off, .int .i64 f.ttl, .int .i64 f.pr, .int .u32 f.si, .int .u32 f.di, .slice p1 f.o.length k1, .slice p2 f.x.length k2] 25)) = w0 at *
  generalize hlB : W.heap.size = B at *
  have y0 := hB.cell 0
  have y1 := hB.cell 1
  have y2 := hB.cell 2
  have y3 := hB.cell 3
  have y4 := hB.cell 4
  have y5 := hB.cell 5
  have y6 := hB.cell 6
  have y7 := hB.cell 7
  have y8 := hB.cell 8
  have y9 := hB.cell 9
  go_wp2_with fail
  refine (heads_c (g0) (sn.grew (g0))).mono ?_
  rintro e wh ⟨rfl, gh⟩
  go_wp2_with fail
  go_ret
  exact ⟨rfl, gh⟩
set_option maxHeartbeats 1000000 in
theorem walk_no {f : PK} {p1 : Option Addr} {k1 : Nat} {p2 : Option Addr} {k2 : Nat} (mtu : Int) (hm0 : -9223372036854775808 ≤ mtu) (hm1 : mtu ≤ 9223372036854775807) {W : World} (sn : SenW W) (h1 : ¬ ((20000 : Int) < (f.x.length : Nat))) (hq : cutE f mtu ≠ 0) (hF : Pk W (.agg #[.int .i64 f.tos, .int .i64 f.id, .int .i64 f.fl, .int .i64 f.off, .int .i64 f.ttl, .int .i64 f.pr, .int .u32 f.si, .int .u32 f.di, .slice p1 f.o.length k1, .slice p2 f.x.length k2]) f) :
    Calls Tryd.prog 5 #[.agg #[.int .i64 f.tos, .int .i64 f.id, .int .i64 f.fl, .int .i64 f.off, .int .i64 f.ttl, .int .i64 f.pr, .int .u32 f.si, .int .u32 f.di, .slice p1 f.o.length k1, .slice p2 f.x.length k2], .int .i64 mtu] W fun e w' => e = .returned (.bool true) ∧ Below W.heap.size W w' := by
  have HFX := Lib.hid (show f.x.length ≤ 140737488355328 by omega)
  have HF0 := Lib.hid hF
  clear hF
  have HP := Lib.hid (cutE_no hq)
  go_enter Tryd.func5, Tryd.ntmps5
  go_upto_region 1 with fail
  have hB : Blk (W.alloc (.cells #[.int .i64 f.tos, .int .i64 f.id, .int .i64 f.fl, .int .i64 f.off, .int .i64 f.ttl, .int .i64 f.pr, .int .u32 f.si, .int .u32 f.di, .slice p1 f.o.length k1, .slice p2 f.x.length k2] 25)) W.heap.size #[.int .i64 f.tos, .int .i64 f.id, .int .i64 f.fl, .int .i64 f.off, .int .i64 f.ttl, .int .i64 f.pr, .int .u32 f.si, .int .u32 f.di, .slice p1 f.o.length k1, .slice p2 f.x.length k2] 25 := Blk.new _ _ _ _ rfl
  have g0 : Grew W (W.alloc (.cells #[.int .i64 f.tos, .int .i64 f.id, .int .i64 f.fl, .int .i64 f.off, .int .i64 f.ttl, .int .i64 f.pr, .int .u32 f.si, .int .u32 f.di, .slice p1 f.o.length k1, .slice p2 f.x.length k2] 25)) := (Grew.refl _).alloc _
  generalize (W.alloc (.cells #[.int .i64 f.tos, .int .i64 f.id, .int .i64 f.fl, .int .i64 f.off, .int .i64 f.ttl, .int .i64 f.pr, .int .u32 f.si, .int .u32 f.di, .slice p1 f.o.length k1, .slice p2 f.x.length k2] 25)) = w0 at *
  generalize hlB : W.heap.size = B at *
  have HF := Lib.hid (HF0.out.grew g0)
  have y0 := hB.cell 0
  have y1 := hB.cell 1
  have y2 := hB.cell 2
  have y3 := hB.cell 3
  have y4 := hB.cell 4
  have y5 := hB.cell 5
  have y6 := hB.cell 6
  have y7 := hB.cell 7
  have y8 := hB.cell 8
  have y9 := hB.cell 9
  go_wp2_with fail
  refine (Cut17_c mtu hm0 hm1 HFX.out HF.out).mono ?_
  rintro e w1 ⟨u, rfl, hl, g1⟩
  have G1 := g0.trans g1
  have hB1 := hB.grew g1
  clear y0 y1 y2 y3 y4 y5 y6 y7 y8 y9 hB
  rw [HP.out] at hl
  obtain ⟨q, hqe⟩ : ∃ q, q = cutE f mtu := ⟨_, rfl⟩
  rw [← hqe] at hq ⊢
  have hz1 : (q == 0) = false := by simpa using hq
  clear hqe hq
  obtain ⟨al, cl, rfl, _⟩ := hl.shape
  go_wp2_with fail
  refine (heads_c (G1) (sn.grew (G1))).mono ?_
  rintro e wh ⟨rfl, gh⟩
  go_wp2_with fail
  go_ret
  exact ⟨rfl, gh⟩
set_option maxHeartbeats 4000000 in
theorem walk_yes {f : PK} {p1 : Option Addr} {k1 : Nat} {p2 : Option Addr} {k2 : Nat} (mtu : Int) (hm0 : -9223372036854775808 ≤ mtu) (hm1 : mtu ≤ 9223372036854775807) {W : World} (sn : SenW W) (h1 : ¬ ((20000 : Int) < (f.x.length : Nat))) (hq : cutE f mtu = 0) (hF : Pk W (.agg #[.int .i64 f.tos, .int .i64 f.id, .int .i64 f.fl, .int .i64 f.off, .int .i64 f.ttl, .int .i64 f.pr, .int .u32 f.si, .int .u32 f.di, .slice p1 f.o.length k1, .slice p2 f.x.length k2]) f) :
    Calls Tryd.prog 5 #[.agg #[.int .i64 f.tos, .int .i64 f.id, .int .i64 f.fl, .int .i64 f.off, .int .i64 f.ttl, .int .i64 f.pr, .int .u32 f.si, .int .u32 f.di, .slice p1 f.o.length k1, .slice p2 f.x.length k2], .int .i64 mtu] W fun e w' => e = .returned (.bool true) ∧ Below W.heap.size W w' := by
  have HFX := Lib.hid (show f.x.length ≤ 140737488355328 by omega)
  have HF0 := Lib.hid hF
  clear hF
  obtain ⟨fs, hfs⟩ : ∃ fs, fs = cutP f mtu := ⟨_, rfl⟩
  have hg := good_cut hq
  rw [← hfs] at hg
  have HFS := Lib.hid hfs
  have HQ := Lib.hid hq
  clear hq hfs
  obtain ⟨gpos, geach, gwhole⟩ := hg
  have GE := Lib.hid geach
  have GW := Lib.hid gwhole
  clear geach gwhole
  go_enter Tryd.func5, Tryd.ntmps5
  go_upto_region 1 with fail
  have hB : Blk (W.alloc (.cells #[.int .i64 f.tos, .int .i64 f.id, .int .i64 f.fl, .int .i64 f.off, .int .i64 f.ttl, .int .i64 f.pr, .int .u32 f.si, .int .u32 f.di, .slice p1 f.o.length k1, .slice p2 f.x.length k2] 25)) W.heap.size #[.int .i64 f.tos, .int .i64 f.id, .int .i64 f.fl, .int .i64 f.off, .int .i64 f.ttl, .int .i64 f.pr, .int .u32 f.si, .int .u32 f.di, .slice p1 f.o.length k1, .slice p2 f.x.length k2] 25 := Blk.new _ _ _ _ rfl
  have g0 : Grew W (W.alloc (.cells #[.int .i64 f.tos, .int .i64 f.id, .int .i64 f.fl, .int .i64 f.off, .int .i64 f.ttl, .int .i64 f.pr, .int .u32 f.si, .int .u32 f.di, .slice p1 f.o.length k1, .slice p2 f.x.length k2] 25)) := (Grew.refl _).alloc _
  generalize (W.alloc (.cells #[.int .i64 f.tos, .int .i64 f.id, .int .i64 f.fl, .int .i64 f.off, .int .i64 f.ttl, .int .i64 f.pr, .int .u32 f.si, .int .u32 f.di, .slice p1 f.o.length k1, .slice p2 f.x.length k2] 25)) = w0 at *
  generalize hlB : W.heap.size = B at *
  have HF := Lib.hid (HF0.out.grew g0)
  have y0 := hB.cell 0
  have y1 := hB.cell 1
  have y2 := hB.cell 2
  have y3 := hB.cell 3
  have y4 := hB.cell 4
  have y5 := hB.cell 5
  have y6 := hB.cell 6
  have y7 := hB.cell 7
  have y8 := hB.cell 8
  have y9 := hB.cell 9
  go_wp2_with fail
  refine (Cut17_c mtu hm0 hm1 HFX.out HF.out).mono ?_
  rintro e w1 ⟨u, rfl, hl, g1⟩
  have G1 := g0.trans g1
  have hB1 := hB.grew g1
  clear y0 y1 y2 y3 y4 y5 y6 y7 y8 y9 hB
  rw [HQ.out]
  rw [← HFS.out] at hl
  have hll := hl.len
  obtain ⟨al, cl, rfl, hat⟩ := hl.shape
  obtain ⟨gl, rfl, hgl, hat⟩ := hat (by intro e; rw [e] at gpos; simp at gpos)
  have HAT := Lib.hid hat
  have HGL := Lib.hid hgl
  obtain ⟨N, hN⟩ : ∃ N, N = fs.length := ⟨_, rfl⟩
  rw [← hN] at gpos hll ⊢
  have HN := Lib.hid hN
  clear hat hgl hl hN
  go_upto_region 8 with fail
  go_loopw [7, 8] (fun v i wr => ∃ k : Nat, k ≤ N ∧ i = .int .i64 k ∧ Hid (Row wr w1.heap.size v (accL fs k)) ∧ Hid (AreBytes (accL fs k)) ∧ Grew w1 wr) (fun _ i _ => N - (intOf i).toNat)
  case atStart => exact ⟨0, Nat.zero_le _, rfl, Lib.hid (Row.nil _ _), Lib.hid (fun x hx => by simp [accL] at hx), Grew.refl _⟩
  case round =>
    obtain ⟨k, hk, rfl, HR, HOK, g⟩ := hrel
    by_cases hlt : k < N
    · have hlt' : (k : Int) < (N : Nat) := by omega
      obtain ⟨q, hq⟩ : ∃ q, fs[k]? = some q := ⟨fs[k]'(by have := HN.out; omega), List.getElem?_eq_getElem _⟩
      obtain ⟨a1, a2, a3, a4, hj, hp⟩ := HAT.out k q hq
      obtain ⟨gok, gsz, goff, g8, gmore, glast, gid⟩ := GE.out k q hq
      have HPK := Lib.hid (hp.grew g)
      have y0 : wr.cell? ⟨gl, k * 10, none⟩ = some (.int .i64 q.tos) := by rw [(gcell g).1 gl _ HGL.out]; exact hj 0 (by omega)
      have y1 : wr.cell? ⟨gl, k * 10 + 1, none⟩ = some (.int .i64 q.id) := by rw [(gcell g).1 gl _ HGL.out]; exact hj 1 (by omega)
      have y2 : wr.cell? ⟨gl, k * 10 + 2, none⟩ = some (.int .i64 q.fl) := by rw [(gcell g).1 gl _ HGL.out]; exact hj 2 (by omega)
      have y3 : wr.cell? ⟨gl, k * 10 + 3, none⟩ = some (.int .i64 q.off) := by rw [(gcell g).1 gl _ HGL.out]; exact hj 3 (by omega)
      have y4 : wr.cell? ⟨gl, k * 10 + 4, none⟩ = some (.int .i64 q.ttl) := by rw [(gcell g).1 gl _ HGL.out]; exact hj 4 (by omega)
      have y5 : wr.cell? ⟨gl, k * 10 + 5, none⟩ = some (.int .i64 q.pr) := by rw [(gcell g).1 gl _ HGL.out]; exact hj 5 (by omega)
      have y6 : wr.cell? ⟨gl, k * 10 + 6, none⟩ = some (.int .u32 q.si) := by rw [(gcell g).1 gl _ HGL.out]; exact hj 6 (by omega)
      have y7 : wr.cell? ⟨gl, k * 10 + 7, none⟩ = some (.int .u32 q.di) := by rw [(gcell g).1 gl _ HGL.out]; exact hj 7 (by omega)
      have y8 : wr.cell? ⟨gl, k * 10 + 8, none⟩ = some (.slice a1 q.o.length a2) := by rw [(gcell g).1 gl _ HGL.out]; exact hj 8 (by omega)
      have y9 : wr.cell? ⟨gl, k * 10 + 9, none⟩ = some (.slice a3 q.x.length a4) := by rw [(gcell g).1 gl _ HGL.out]; exact hj 9 (by omega)
      have HJ := Lib.hid hj
      clear hj hp
      have gokb := okP_spec gok
      have hqx := Lib.hid (show q.x.length ≤ 140737488355328 by omega)
      have hpe := Lib.hid (show putPE q = 0 by unfold putPE; rw [gok]; rfl)
      have hpb := Lib.hid (show putPB q = putP q by unfold putPB; rw [gok]; rfl)
      obtain ⟨T, hT⟩ : ∃ T, T = (accL fs k).length := ⟨_, rfl⟩
      rw [← hT] at goff g8
      have hTl : T ≤ 20000 := by have := accL_le fs k; rw [GW.out] at this; omega
      have eo1 := Lib.hid (show IntKind.i64.wrap ((T : Int) / 8) = (T : Int) / 8 from IntWalk.i64_in _ (by omega))
      have eo2 := Lib.hid (show IntKind.i64.wrap (f.off + (T : Int) / 8) = f.off + (T : Int) / 8 from IntWalk.i64_in _ (by omega))
      have eo3 := Lib.hid (show (q.off != f.off + (T : Int) / 8) = false by rw [goff]; simp)
      have e81 := Lib.hid (show IntKind.i64.wrap ((T : Int) % 8) = 0 by rw [show (T : Int) % 8 = 0 by omega]; rfl)
      have es1 := Lib.hid (show decide (mtu < ((putP q).length : Int)) = false from decide_eq_false (by rw [putP_len]; omega))
      have ei1 := Lib.hid (show (q.id != f.id) = false by rw [gid]; simp)
      have en1 := Lib.hid (show IntKind.i64.wrap ((N : Int) - 1) = (N : Int) - 1 from IntWalk.i64_in _ (by omega))
      have e8a := Lib.hid (show T % 8 = 0 from g8)
      have e8b := Lib.hid (show (T : Int) % 8 = 0 by omega)
      have e8c := Lib.hid (show (T : Int).tmod 8 = 0 by rw [Int.tmod_eq_emod_of_nonneg (by omega)]; omega)
      have HTE := Lib.hid hT
      have HTL := Lib.hid hTl
      have HQB := Lib.hid (show q.x.length ≤ 65515 by omega)
      have GM := Lib.hid gmore
      have GL := Lib.hid glast
      have GF := Lib.hid (show 0 ≤ q.fl ∧ q.fl ≤ 7 from gokb.1.2.2.2.2.1)
      clear gok gsz goff g8 gmore glast gid gokb hT hTl
      go_wp2_with fail
      refine (Put17_c hqx.out HPK.out).mono ?_
      rintro e w2 ⟨ub, rfl, hbb, g2⟩
      rw [hpe.out]
      rw [hpb.out] at hbb
      obtain ⟨pb, kb, rfl, _, _⟩ := hbb.shape
      clear hbb y0 y1 y2 y3 y4 y5 y6 y7 y8 y9
      have gg := g.trans g2
      have HR2 := Lib.hid (HR.out.grew g2)
      have hBk := hB1.grew gg
      have HQK := Lib.hid hq
      have HB := Lib.hid hBk
      have HNL := Lib.hid (show 0 < N by omega)
      clear hq hBk
      obtain ⟨va, vc, rfl⟩ : ∃ va vc, u7 = .slice va T vc := by
        have hb := HR2.out.buf HOK.out
        obtain ⟨va, vc, rfl, _, _⟩ := hb.shape
        exact ⟨va, vc, by rw [HTE.out]⟩
      go_upto_region 11 with fail
      by_cases hmore : k + 1 < N
      · have M1 := Lib.hid (show decide ((k : Int) < (N : Int) - 1) = true from decide_eq_true (by omega))
        have M2 := Lib.hid (show ((k : Int) == (N : Int) - 1) = false by simp; omega)
        have M3 := Lib.hid (show q.fl.tmod 2 = 1 by rw [Int.tmod_eq_emod_of_nonneg GF.out.1, GM.out (by rw [← HN.out]; exact hmore)])
        clear hmore
        have e5 := es1.out
        have e1 := eo1.out
        have e2 := eo2.out
        have e3 := eo3.out
        have e4 := e8c.out
        have e7 := en1.out
        have m1 := M1.out
        have m2 := M2.out
        have m3 := M3.out
        have e6 := ei1.out
        have c1 : w2.cell? ⟨gl, k * 10 + 1, none⟩ = some (.int .i64 q.id) := by rw [(gcell gg).1 gl _ HGL.out]; exact HJ.out 1 (by omega)
        have c2 : w2.cell? ⟨gl, k * 10 + 2, none⟩ = some (.int .i64 q.fl) := by rw [(gcell gg).1 gl _ HGL.out]; exact HJ.out 2 (by omega)
        have c3 : w2.cell? ⟨gl, k * 10 + 3, none⟩ = some (.int .i64 q.off) := by rw [(gcell gg).1 gl _ HGL.out]; exact HJ.out 3 (by omega)
        have b1 := HB.out.cell 1
        have b2 := HB.out.cell 2
        have b3 := HB.out.cell 3
        simp only [List.append_eq, List.cons_append, List.nil_append]
        go_quiet (fail)
        have g3 : Grew w2 (w2.drewN nq) := (Grew.refl w2).drewN nq
        generalize (w2.drewN nq) = w3 at *
        clear e1 e2 e3 e4 e5 e6 e7 m1 m2 m3 c1 c2 c3 b1 b2 b3
        have g13 := gg.trans g3
        have y9 : w3.cell? ⟨gl, k * 10 + 9, none⟩ = some (.slice a3 q.x.length a4) := by rw [(gcell g13).1 gl _ HGL.out]; exact HJ.out 9 (by omega)
        obtain ⟨v1, v2, v3, v4, ev, hv1, hv2⟩ := (HPK.out.grew (g2.trans g3)).shape
        simp only [pkV, Value.agg.injEq, Array.mk.injEq, List.cons.injEq, Value.slice.injEq, and_true, true_and] at ev
        obtain ⟨⟨rfl, rfl⟩, rfl, rfl⟩ := ev
        have HQX := Lib.hid hv2
        have HR3 := Lib.hid (HR2.out.grew g3)
        have HLA := Lib.hid (show (accL fs k).length + q.x.length ≤ 140737488355328 by have := HTE.out; have := hqx.out; have := HTL.out; have := HQB.out; omega)
        clear hv1 hv2
        go_upto_region 9 with (refine wpList_append_b (W := w1) rfl (.tmp 115) (.tmp 120) rfl g13 HR3.out HQX.out (by rfl) (by rfl) HLA.out ?_; intro v8 w8 R8 g8 x8; clear x8)
        have RE : Hid (Row w8 w1.heap.size v8 (accL fs (k + 1))) := Lib.hid (by rw [accL_succ HQK.out]; exact R8.out)
        have OE : Hid (AreBytes (accL fs (k + 1))) := Lib.hid (by rw [accL_succ HQK.out]; exact HOK.out.app HQX.out.ok)
        have kw : wrap64 ((k : Int) + 1) = (k : Int) + 1 := IntWalk.wrap64_in _ (by omega)
        clear y9 R8
        go_wp2_with fail
        go_roundw
        case rel => exact ⟨k + 1, by omega, by go_num, RE, OE, g8⟩
        case measure => simp [intOf]; omega
      · have M1 := Lib.hid (show decide ((k : Int) < (N : Int) - 1) = false from decide_eq_false (by omega))
        have M2 := Lib.hid (show ((k : Int) == (N : Int) - 1) = true by simp; omega)
        have M3 := Lib.hid (show (q.fl != f.fl) = false by rw [GL.out (by rw [← HN.out]; omega)]; simp)
        clear hmore
        have e5 := es1.out
        have e1 := eo1.out
        have e2 := eo2.out
        have e3 := eo3.out
        have e4 := e8c.out
        have e7 := en1.out
        have m1 := M1.out
        have m2 := M2.out
        have m3 := M3.out
        have e6 := ei1.out
        have c1 : w2.cell? ⟨gl, k * 10 + 1, none⟩ = some (.int .i64 q.id) := by rw [(gcell gg).1 gl _ HGL.out]; exact HJ.out 1 (by omega)
        have c2 : w2.cell? ⟨gl, k * 10 + 2, none⟩ = some (.int .i64 q.fl) := by rw [(gcell gg).1 gl _ HGL.out]; exact HJ.out 2 (by omega)
        have c3 : w2.cell? ⟨gl, k * 10 + 3, none⟩ = some (.int .i64 q.off) := by rw [(gcell gg).1 gl _ HGL.out]; exact HJ.out 3 (by omega)
        have b1 := HB.out.cell 1
        have b2 := HB.out.cell 2
        have b3 := HB.out.cell 3
        simp only [List.append_eq, List.cons_append, List.nil_append]
        go_quiet (fail)
        have g3 : Grew w2 (w2.drewN nq) := (Grew.refl w2).drewN nq
        generalize (w2.drewN nq) = w3 at *
        clear e1 e2 e3 e4 e5 e6 e7 m1 m2 m3 c1 c2 c3 b1 b2 b3
        have g13 := gg.trans g3
        have y9 : w3.cell? ⟨gl, k * 10 + 9, none⟩ = some (.slice a3 q.x.length a4) := by rw [(gcell g13).1 gl _ HGL.out]; exact HJ.out 9 (by omega)
        obtain ⟨v1, v2, v3, v4, ev, hv1, hv2⟩ := (HPK.out.grew (g2.trans g3)).shape
        simp only [pkV, Value.agg.injEq, Array.mk.injEq, List.cons.injEq, Value.slice.injEq, and_true, true_and] at ev
        obtain ⟨⟨rfl, rfl⟩, rfl, rfl⟩ := ev
        have HQX := Lib.hid hv2
        have HR3 := Lib.hid (HR2.out.grew g3)
        have HLA := Lib.hid (show (accL fs k).length + q.x.length ≤ 140737488355328 by have := HTE.out; have := hqx.out; have := HTL.out; have := HQB.out; omega)
        clear hv1 hv2
        go_upto_region 9 with (refine wpList_append_b (W := w1) rfl (.tmp 115) (.tmp 120) rfl g13 HR3.out HQX.out (by rfl) (by rfl) HLA.out ?_; intro v8 w8 R8 g8 x8; clear x8)
        have RE : Hid (Row w8 w1.heap.size v8 (accL fs (k + 1))) := Lib.hid (by rw [accL_succ HQK.out]; exact R8.out)
        have OE : Hid (AreBytes (accL fs (k + 1))) := Lib.hid (by rw [accL_succ HQK.out]; exact HOK.out.app HQX.out.ok)
        have kw : wrap64 ((k : Int) + 1) = (k : Int) + 1 := IntWalk.wrap64_in _ (by omega)
        clear y9 R8
        go_wp2_with fail
        go_roundw
        case rel => exact ⟨k + 1, by omega, by go_num, RE, OE, g8⟩
        case measure => simp [intOf]; omega
    · obtain rfl : k = N := by omega
      have y9 := (hB1.grew g).cell 9
      have hall := HR.out.buf HOK.out
      rw [HN.out, GW.out] at hall
      obtain ⟨va, vc, rfl, _, _⟩ := hall.shape
      have HALL := Lib.hid hall
      have HFB : Hid (Buf wr (.slice p2 f.x.length k2) f.x) := Lib.hid (by
        obtain ⟨v1, v2, v3, v4, ev, hv1, hv2⟩ := (HF0.out.grew (G1.trans g)).shape
        simp only [pkV, Value.agg.injEq, Array.mk.injEq, List.cons.injEq, Value.slice.injEq, and_true, true_and] at ev
        obtain ⟨⟨rfl, rfl⟩, rfl, rfl⟩ := ev
        exact hv2)
      have kpos : (0 : Int) < (k : Nat) := by omega
      clear hall
      go_wp2_with fail
      refine (same_true HALL.out HFB.out).mono ?_
      rintro e w5 ⟨rfl, g5⟩
      have gE := (G1.trans g).trans g5
      go_wp2_with fail
      refine (heads_c gE (sn.grew gE)).mono ?_
      rintro e wh ⟨rfl, gh⟩
      go_wp2_with fail
      go_ret
      exact ⟨rfl, gh⟩
theorem walk (v : Value) (f : PK) (mtu : Int) (hm : -9223372036854775808 ≤ mtu ∧ mtu ≤ 9223372036854775807) {W : World} (sn : SenW W) (hF : Pk W v f) (_ : f.o.length ≤ 140737488355328 ∧ f.x.length ≤ 140737488355328) :
    Calls Tryd.prog 5 #[v, .int .i64 mtu] W fun e w' => e = .returned (.bool true) ∧ Below W.heap.size W w' := by
  have hF' := hF
  obtain ⟨p1, k1, p2, k2, rfl, _, _⟩ := hF'.shape
  by_cases h1 : (20000 : Int) < (f.x.length : Nat)
  · exact walk_far mtu sn h1
  · by_cases hq : cutE f mtu = 0
    · exact walk_yes mtu hm.1 hm.2 sn h1 hq hF
    · exact walk_no mtu hm.1 hm.2 sn h1 hq hF
set_option maxRecDepth 100000 in
theorem lifted (os : Os) (started : os.Started) (H : Type) (enc : TypeId × Value → H) :
    ReturnsInHanded {} Tryd.checked os 5 .any (fun w args => (Rows.ipPiecesSpec.pre enc Tryd.prog Tryd.f5 [] false w args ∧ laidMetH Tryd.prog laid2 w) ∧ sizedMet enc Tryd.prog Tryd.f5 (OpenSpec.ofChange Rows.ipPiecesSpec) false w args) (Rows.ipPiecesSpec.post enc Tryd.prog Tryd.f5 false true false false) := by
  refine returnsInHanded_of_change_and (C := Tryd.checked) (X := fun w _ => laidMetH Tryd.prog laid2 w) (fun _ _ _ hh h => h.of_heap hh) own started (by kernel_rfl) Tryd.func5
    (ChangeSpec.witness_shaped (enc := enc) (C := Tryd.checked) (os := os) (X := fun w _ => laidMetH Tryd.prog laid2 w) false (World.doorLaid Tryd.prog 400 os) #[.agg #[.int .i64 0, .int .i64 0, .int .i64 0, .int .i64 0, .int .i64 0, .int .i64 0, .int .u32 0, .int .u32 0, .slice none 0 0, .slice none 0 0], .int .i64 0] 8 rfl (World.shaped_of_RefB (by kernel_rfl) (by kernel_rfl)) (by kernel_rfl) (by kernel_rfl) (by kernel_rfl) (door_met os _)) ?_
  intro W base args ds gs before hval0 hW _ hz0 hL _
  obtain ⟨a0, a1, sn⟩ := sen_of_laid hL
  have hval : ∀ (j : Nat) t v, Tryd.f5.params[j]? = some t → args[j]? = some v → Value.okWide Tryd.prog W .any base t v := hval0
  have hW' := hW
  obtain ⟨p, q, hA0, hV, rfl, hfz, hnd⟩ := hW
  have hA : DataW.TrodAll enc Tryd.prog W 0 (fun _ => true) true Tryd.f5.params.toList args.toList ds p := hA0
  rw [Tryd.params5] at hA hval
  obtain ⟨v0, vs0, d0, ds0, p0, q0, hargs, rfl, rfl, h0, r'0⟩ := trodAll_cons hA
  obtain ⟨v1, vs1, d1, ds1, p1, q1, rfl, rfl, rfl, h1, r'1⟩ := trodAll_cons r'0
  obtain ⟨rfl, rfl, rfl⟩ := trodAll_nil r'1
  obtain rfl : args = #[v0, v1] := by cases args; simp_all
  obtain ⟨f0, k0, z0⟩ := open_ip (hval 0 25 v0 rfl rfl) h0
  have fits0 := z0 (fun m hm => by simpa using List.all_eq_true.1 hz0 _ (DataW.weights_mem_each (j := 0) (t := 25) rfl rfl m hm))
  obtain ⟨a1, rfl, rfl, rfl, w1⟩ := open_int Tryd.underlying3 (hval 1 3 v1 rfl rfl) h1
  refine (walk v0 f0 a1 (wf_i64 w1) sn k0 fits0).mono fun e W' ⟨he, hb⟩ => ?_
  subst he
  exact ⟨_, rfl, law_post hW' rfl rfl laid (by kernel_rfl) rfl Tryd.underlying4 hb⟩

theorem over : Rows.ipPiecesRow.holds Tryd.pinned (OpenSpec.ofChange Rows.ipPiecesSpec) :=
  OpenClaim.holds_of_wide 5 Tryd.f5 rfl rfl rfl rfl rfl rfl rfl ⟨rfl, rfl, rfl, rfl, rfl⟩ rfl rfl rfl rfl rfl (by kernel_rfl) Tryd.func5 (by kernel_rfl)
    (of_decide_eq_true (by kernel_rfl)) (by unfold Func.isWrapper; first | (rw [if_pos (by decide +kernel)]; kernel_rfl) | (rw [if_neg (by decide +kernel)]; exact ⟨rfl, rfl⟩))
    (fun os started H enc _ => lifted os started H enc)

theorem proved : Rows.IpPiecesCardSaid :=
  Claim7.holds_tied_plain_at .later [] Rows.ipPiecesCard.laidKinds true Rows.ipPiecesCard.stood.harness Rows.ipPiecesCard.stood.looks
    over (fun _ h => by cases h) (by kernel_rfl) (fun _ h => by cases h) ipPieces_row_tie rfl ⟨rfl, rfl⟩ (by kernel_rfl) rfl
    (fun f fn hf hfn => by
      obtain rfl : f = 5 := Option.some.inj ((show Tryd.prog.funcNamed "drawbridge/drawbridgelaw17.IpPieces" = some 5 by kernel_rfl).symm.trans hf) |>.symm
      obtain rfl : fn = Tryd.f5 := (Option.some.inj (Tryd.func5.symm.trans hfn)).symm
      exact ⟨by kernel_rfl, fun j t ht => by
        have hall : (Tryd.f5.params.toList.all fun u => !Tryd.prog.wantsStandIn u) = true := by kernel_rfl
        have hm : t ∈ Tryd.f5.params.toList := by simpa using Array.mem_of_getElem? ht
        exact (show Tryd.prog.wantsStandIn t = false by simpa using List.all_eq_true.1 hall t hm)⟩)
    (by kernel_rfl)
#print axioms proved
end Go.Proofs.YtalbdeifkbfnbaaDoor.ipPieces
