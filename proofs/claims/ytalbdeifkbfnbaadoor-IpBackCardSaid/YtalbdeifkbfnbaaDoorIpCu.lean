/-
  Package ip: Cut of all packets.
-/
import Derived.Test.YtalbdeifkbfnbaaDoorIpF
import Derived.Test.YtalbdeifkbfnbaaDoorIpB
set_option maxRecDepth 4000
set_option linter.unusedVariables false
set_option linter.unusedSimpArgs false
namespace Go.Proofs.YtalbdeifkbfnbaaDoor
open Go.RowKit

def cutE (f : PK) (mtu : Int) : Int :=
  if okP f = false then 2 else if (szN f : Int) ≤ mtu then 0 else if f.fl / 2 % 2 = 1 then 161 else if (hdN f : Int) + 8 > mtu then 2 else if f.off + ((f.x.length : Int) + 7) / 8 > 8191 then 2 else 0
def cutM (f : PK) (mtu : Int) : Nat := ((mtu - (hdN f : Int)) / 8 * 8).toNat
def cutP (f : PK) (mtu : Int) : List PK := if cutE f mtu ≠ 0 then [] else if (szN f : Int) ≤ mtu then [f] else piecesTo f (cutM f mtu) (nP f (cutM f mtu))
theorem units_g (n : Int) (h0 : 0 ≤ n) (h1 : n ≤ 140737488355328) (w : World) :
    Calls Tryd.prog 32 #[.int .i64 n] w fun e w' => e = .returned (.int .i64 ((n + 7) / 8)) ∧ Grew w w' :=
  (units_c n h0 h1 w).mono fun _ _ ⟨h1, h2⟩ => ⟨h1, by subst h2; exact Grew.refl _⟩
theorem and_two (x : Int) (h0 : 0 ≤ x) (h1 : x ≤ 7) : (bits .and .i64 x 2 != 0) = decide (x / 2 % 2 = 1) := by
  have key : ∀ n : Fin 8, (bits .and .i64 ((n.val : Nat) : Int) 2 != 0) = decide (((n.val : Nat) : Int) / 2 % 2 = 1) := by decide +kernel
  have := key ⟨x.toNat, by omega⟩
  rwa [show ((x.toNat : Nat) : Int) = x by omega] at this

set_option maxHeartbeats 4000000 in
theorem cut_0 {f : PK} {p1 : Option Addr} {k1 : Nat} {p2 : Option Addr} {k2 : Nat} (mtu : Int) (hm0 : -9223372036854775808 ≤ mtu) (hm1 : mtu ≤ 9223372036854775807) (hx : f.x.length ≤ 140737488355328) (hok : okP f = false) {w : World} (hv : Pk w (.agg #[.int .i64 f.tos, .int .i64 f.id, .int .i64 f.fl, .int .i64 f.off, .int .i64 f.ttl, .int .i64 f.pr, .int .u32 f.si, .int .u32 f.di, .slice p1 f.o.length k1, .slice p2 f.x.length k2]) f) :
    Calls Tryd.prog 15 #[.agg #[.int .i64 f.tos, .int .i64 f.id, .int .i64 f.fl, .int .i64 f.off, .int .i64 f.ttl, .int .i64 f.pr, .int .u32 f.si, .int .u32 f.di, .slice p1 f.o.length k1, .slice p2 f.x.length k2], .int .i64 mtu] w fun e w' => ∃ u, e = .returned (.tuple #[u, .int .i64 2]) ∧ Pks w' u [] ∧ Grew w w' := by
  have HV := Lib.hid hv
  have HX := Lib.hid hx
  have HOK := Lib.hid hok
  clear hv hok
  go_enter Tryd.func15, Tryd.ntmps15
  go_upto_region 1 with fail
  have hB : Blk (w.alloc (.cells #[.int .i64 f.tos, .int .i64 f.id, .int .i64 f.fl, .int .i64 f.off, .int .i64 f.ttl, .int .i64 f.pr, .int .u32 f.si, .int .u32 f.di, .slice p1 f.o.length k1, .slice p2 f.x.length k2] 25)) w.heap.size #[.int .i64 f.tos, .int .i64 f.id, .int .i64 f.fl, .int .i64 f.off, .int .i64 f.ttl, .int .i64 f.pr, .int .u32 f.si, .int .u32 f.di, .slice p1 f.o.length k1, .slice p2 f.x.length k2] 25 := Blk.new _ _ _ _ rfl
  have g0 : Grew w (w.alloc (.cells #[.int .i64 f.tos, .int .i64 f.id, .int .i64 f.fl, .int .i64 f.off, .int .i64 f.ttl, .int .i64 f.pr, .int .u32 f.si, .int .u32 f.di, .slice p1 f.o.length k1, .slice p2 f.x.length k2] 25)) := (Grew.refl _).alloc _
  generalize (w.alloc (.cells #[.int .i64 f.tos, .int .i64 f.id, .int .i64 f.fl, .int .i64 f.off, .int .i64 f.ttl, .int .i64 f.pr, .int .u32 f.si, .int .u32 f.di, .slice p1 f.o.length k1, .slice p2 f.x.length k2] 25)) = w0 at *
  generalize hlB : w.heap.size = B at *
  have y0 := hB.cell 0
  have y1 := hB.cell 1
  have y2 := hB.cell 2
  have y3 := hB.cell 3
  have y4 := hB.cell 4
  have y5 := hB.cell 5
  have y6 := hB.cell 6
  have y7 := hB.cell 7
  have y8 := hB.cell 8
  have y9 := hB.cell 9
  go_wp2_with fail
  refine (isPacket_c hx (HV.out.grew g0)).mono ?_
  rintro e w1 ⟨rfl, g1⟩
  rw [HOK.out]
  have G1 := g0.trans g1
  have hB1 := hB.grew g1
  clear y0 y1 y2 y3 y4 y5 y6 y7 y8 y9 hB
  go_wp2_with fail
  go_ret2
  exact ⟨_, rfl, Pks.nil _, G1⟩
set_option maxHeartbeats 4000000 in
theorem cut_1 {f : PK} {p1 : Option Addr} {k1 : Nat} {p2 : Option Addr} {k2 : Nat} (mtu : Int) (hm0 : -9223372036854775808 ≤ mtu) (hm1 : mtu ≤ 9223372036854775807) (hx : f.x.length ≤ 140737488355328) (hok : okP f = true) (hz : (szN f : Int) ≤ mtu) {w : World} (hv : Pk w (.agg #[.int .i64 f.tos, .int .i64 f.id, .int .i64 f.fl, .int .i64 f.off, .int .i64 f.ttl, .int .i64 f.pr, .int .u32 f.si, .int .u32 f.di, .slice p1 f.o.length k1, .slice p2 f.x.length k2]) f) :
    Calls Tryd.prog 15 #[.agg #[.int .i64 f.tos, .int .i64 f.id, .int .i64 f.fl, .int .i64 f.off, .int .i64 f.ttl, .int .i64 f.pr, .int .u32 f.si, .int .u32 f.di, .slice p1 f.o.length k1, .slice p2 f.x.length k2], .int .i64 mtu] w fun e w' => ∃ u, e = .returned (.tuple #[u, .int .i64 0]) ∧ Pks w' u [f] ∧ Grew w w' := by
  have HV := Lib.hid hv
  have hk := okP_spec hok
  obtain ⟨⟨k1', k2', k3', k4', k5', k6'⟩, ho40, ho4, hox⟩ := hk
  have hN : (hdN f : Int) = 20 + (f.o.length : Nat) := by unfold hdN; omega
  have hS : (szN f : Int) = (hdN f : Int) + (f.x.length : Nat) := by unfold szN; omega
  have HLO := Lib.hid (show f.o.length ≤ 140737488355328 by omega)
  have HX := Lib.hid hx
  have HOK := Lib.hid hok
  clear hv hok k1' k2' k3' k4' k5' k6' ho40 ho4 hox hN hS
  go_enter Tryd.func15, Tryd.ntmps15
  go_upto_region 1 with fail
  have hB : Blk (w.alloc (.cells #[.int .i64 f.tos, .int .i64 f.id, .int .i64 f.fl, .int .i64 f.off, .int .i64 f.ttl, .int .i64 f.pr, .int .u32 f.si, .int .u32 f.di, .slice p1 f.o.length k1, .slice p2 f.x.length k2] 25)) w.heap.size #[.int .i64 f.tos, .int .i64 f.id, .int .i64 f.fl, .int .i64 f.off, .int .i64 f.ttl, .int .i64 f.pr, .int .u32 f.si, .int .u32 f.di, .slice p1 f.o.length k1, .slice p2 f.x.length k2] 25 := Blk.new _ _ _ _ rfl
  have g0 : Grew w (w.alloc (.cells #[.int .i64 f.tos, .int .i64 f.id, .int .i64 f.fl, .int .i64 f.off, .int .i64 f.ttl, .int .i64 f.pr, .int .u32 f.si, .int .u32 f.di, .slice p1 f.o.length k1, .slice p2 f.x.length k2] 25)) := (Grew.refl _).alloc _
  generalize (w.alloc (.cells #[.int .i64 f.tos, .int .i64 f.id, .int .i64 f.fl, .int .i64 f.off, .int .i64 f.ttl, .int .i64 f.pr, .int .u32 f.si, .int .u32 f.di, .slice p1 f.o.length k1, .slice p2 f.x.length k2] 25)) = w0 at *
  generalize hlB : w.heap.size = B at *
  have y0 := hB.cell 0
  have y1 := hB.cell 1
  have y2 := hB.cell 2
  have y3 := hB.cell 3
  have y4 := hB.cell 4
  have y5 := hB.cell 5
  have y6 := hB.cell 6
  have y7 := hB.cell 7
  have y8 := hB.cell 8
  have y9 := hB.cell 9
  go_wp2_with fail
  refine (isPacket_c hx (HV.out.grew g0)).mono ?_
  rintro e w1 ⟨rfl, g1⟩
  rw [HOK.out]
  have G1 := g0.trans g1
  have hB1 := hB.grew g1
  clear y0 y1 y2 y3 y4 y5 y6 y7 y8 y9 hB
  have y0 := hB1.cell 0
  have y1 := hB1.cell 1
  have y2 := hB1.cell 2
  have y3 := hB1.cell 3
  have y4 := hB1.cell 4
  have y5 := hB1.cell 5
  have y6 := hB1.cell 6
  have y7 := hB1.cell 7
  have y8 := hB1.cell 8
  have y9 := hB1.cell 9
  go_wp2_with fail
  refine (sizeOf_c HLO.out hx _).mono ?_
  rintro e w2 ⟨rfl, g2⟩
  have G2 := G1.trans g2
  have hB2 := hB1.grew g2
  clear y0 y1 y2 y3 y4 y5 y6 y7 y8 y9 hB1
  have y0 := hB2.cell 0
  have y1 := hB2.cell 1
  have y2 := hB2.cell 2
  have y3 := hB2.cell 3
  have y4 := hB2.cell 4
  have y5 := hB2.cell 5
  have y6 := hB2.cell 6
  have y7 := hB2.cell 7
  have y8 := hB2.cell 8
  have y9 := hB2.cell 9
  go_wp2_with fail
  refine (alone_c HLO.out HX.out (HV.out.grew G2)).mono ?_
  rintro e w3 ⟨u, rfl, hu, g3⟩
  have HU := Lib.hid hu
  obtain ⟨sp1, sk1, sp2, sk2, rfl, z1, z2⟩ := hu.shape
  clear z1 z2 hu y0 y1 y2 y3 y4 y5 y6 y7 y8 y9
  go_wp2_with fail
  go_ret2
  exact ⟨_, rfl, Pks.one (Blk.new w3 _ _ _ rfl) (HU.out.grew ((Grew.refl w3).alloc _)), (G2.trans g3).alloc _⟩
set_option maxHeartbeats 4000000 in
theorem cut_2 {f : PK} {p1 : Option Addr} {k1 : Nat} {p2 : Option Addr} {k2 : Nat} (mtu : Int) (hm0 : -9223372036854775808 ≤ mtu) (hm1 : mtu ≤ 9223372036854775807) (hx : f.x.length ≤ 140737488355328) (hok : okP f = true) (hz : ¬ (szN f : Int) ≤ mtu) (hf : (bits .and .i64 f.fl 2 != 0) = true) {w : World} (hv : Pk w (.agg #[.int .i64 f.tos, .int .i64 f.id, .int .i64 f.fl, .int .i64 f.off, .int .i64 f.ttl, .int .i64 f.pr, .int .u32 f.si, .int .u32 f.di, .slice p1 f.o.length k1, .slice p2 f.x.length k2]) f) :
    Calls Tryd.prog 15 #[.agg #[.int .i64 f.tos, .int .i64 f.id, .int .i64 f.fl, .int .i64 f.off, .int .i64 f.ttl, .int .i64 f.pr, .int .u32 f.si, .int .u32 f.di, .slice p1 f.o.length k1, .slice p2 f.x.length k2], .int .i64 mtu] w fun e w' => ∃ u, e = .returned (.tuple #[u, .int .i64 161]) ∧ Pks w' u [] ∧ Grew w w' := by
  have HV := Lib.hid hv
  have hk := okP_spec hok
  obtain ⟨⟨k1', k2', k3', k4', k5', k6'⟩, ho40, ho4, hox⟩ := hk
  have hN : (hdN f : Int) = 20 + (f.o.length : Nat) := by unfold hdN; omega
  have hS : (szN f : Int) = (hdN f : Int) + (f.x.length : Nat) := by unfold szN; omega
  have HLO := Lib.hid (show f.o.length ≤ 140737488355328 by omega)
  have HX := Lib.hid hx
  have HOK := Lib.hid hok
  clear hv hok k1' k2' k3' k4' k5' k6' ho40 ho4 hox hN hS
  go_enter Tryd.func15, Tryd.ntmps15
  go_upto_region 1 with fail
  have hB : Blk (w.alloc (.cells #[.int .i64 f.tos, .int .i64 f.id, .int .i64 f.fl, .int .i64 f.off, .int .i64 f.ttl, .int .i64 f.pr, .int .u32 f.si, .int .u32 f.di, .slice p1 f.o.length k1, .slice p2 f.x.length k2] 25)) w.heap.size #[.int .i64 f.tos, .int .i64 f.id, .int .i64 f.fl, .int .i64 f.off, .int .i64 f.ttl, .int .i64 f.pr, .int .u32 f.si, .int .u32 f.di, .slice p1 f.o.length k1, .slice p2 f.x.length k2] 25 := Blk.new _ _ _ _ rfl
  have g0 : Grew w (w.alloc (.cells #[.int .i64 f.tos, .int .i64 f.id, .int .i64 f.fl, .int .i64 f.off, .int .i64 f.ttl, .int .i64 f.pr, .int .u32 f.si, .int .u32 f.di, .slice p1 f.o.length k1, .slice p2 f.x.length k2] 25)) := (Grew.refl _).alloc _
  generalize (w.alloc (.cells #[.int .i64 f.tos, .int .i64 f.id, .int .i64 f.fl, .int .i64 f.off, .int .i64 f.ttl, .int .i64 f.pr, .int .u32 f.si, .int .u32 f.di, .slice p1 f.o.length k1, .slice p2 f.x.length k2] 25)) = w0 at *
  generalize hlB : w.heap.size = B at *
  have y0 := hB.cell 0
  have y1 := hB.cell 1
  have y2 := hB.cell 2
  have y3 := hB.cell 3
  have y4 := hB.cell 4
  have y5 := hB.cell 5
  have y6 := hB.cell 6
  have y7 := hB.cell 7
  have y8 := hB.cell 8
  have y9 := hB.cell 9
  go_wp2_with fail
  refine (isPacket_c hx (HV.out.grew g0)).mono ?_
  rintro e w1 ⟨rfl, g1⟩
  rw [HOK.out]
  have G1 := g0.trans g1
  have hB1 := hB.grew g1
  clear y0 y1 y2 y3 y4 y5 y6 y7 y8 y9 hB
  have y0 := hB1.cell 0
  have y1 := hB1.cell 1
  have y2 := hB1.cell 2
  have y3 := hB1.cell 3
  have y4 := hB1.cell 4
  have y5 := hB1.cell 5
  have y6 := hB1.cell 6
  have y7 := hB1.cell 7
  have y8 := hB1.cell 8
  have y9 := hB1.cell 9
  go_wp2_with fail
  refine (sizeOf_c HLO.out hx _).mono ?_
  rintro e w2 ⟨rfl, g2⟩
  have G2 := G1.trans g2
  have hB2 := hB1.grew g2
  clear y0 y1 y2 y3 y4 y5 y6 y7 y8 y9 hB1
  have y0 := hB2.cell 0
  have y1 := hB2.cell 1
  have y2 := hB2.cell 2
  have y3 := hB2.cell 3
  have y4 := hB2.cell 4
  have y5 := hB2.cell 5
  have y6 := hB2.cell 6
  have y7 := hB2.cell 7
  have y8 := hB2.cell 8
  have y9 := hB2.cell 9
  go_wp2_with fail
  go_ret2
  exact ⟨_, rfl, Pks.nil _, G2⟩
set_option maxHeartbeats 4000000 in
theorem cut_3 {f : PK} {p1 : Option Addr} {k1 : Nat} {p2 : Option Addr} {k2 : Nat} (mtu : Int) (hm0 : -9223372036854775808 ≤ mtu) (hm1 : mtu ≤ 9223372036854775807) (hx : f.x.length ≤ 140737488355328) (hok : okP f = true) (hz : ¬ (szN f : Int) ≤ mtu) (hf : (bits .and .i64 f.fl 2 != 0) = false) (hd : mtu < (hdN f : Int) + 8) {w : World} (hv : Pk w (.agg #[.int .i64 f.tos, .int .i64 f.id, .int .i64 f.fl, .int .i64 f.off, .int .i64 f.ttl, .int .i64 f.pr, .int .u32 f.si, .int .u32 f.di, .slice p1 f.o.length k1, .slice p2 f.x.length k2]) f) :
    Calls Tryd.prog 15 #[.agg #[.int .i64 f.tos, .int .i64 f.id, .int .i64 f.fl, .int .i64 f.off, .int .i64 f.ttl, .int .i64 f.pr, .int .u32 f.si, .int .u32 f.di, .slice p1 f.o.length k1, .slice p2 f.x.length k2], .int .i64 mtu] w fun e w' => ∃ u, e = .returned (.tuple #[u, .int .i64 2]) ∧ Pks w' u [] ∧ Grew w w' := by
  have HV := Lib.hid hv
  have hk := okP_spec hok
  obtain ⟨⟨k1', k2', k3', k4', k5', k6'⟩, ho40, ho4, hox⟩ := hk
  have hN : (hdN f : Int) = 20 + (f.o.length : Nat) := by unfold hdN; omega
  have hS : (szN f : Int) = (hdN f : Int) + (f.x.length : Nat) := by unfold szN; omega
  have HLO := Lib.hid (show f.o.length ≤ 140737488355328 by omega)
  have HX := Lib.hid hx
  have e8 : IntKind.i64.wrap ((hdN f : Int) + 8) = (hdN f : Int) + 8 := IntWalk.i64_in _ (by omega)
  have HU : Hid (IntKind.i64.wrap (f.off + ((f.x.length : Int) + 7) / 8) = f.off + ((f.x.length : Int) + 7) / 8) := Lib.hid (IntWalk.i64_in _ (by omega))
  have HOK := Lib.hid hok
  clear hv hok k1' k2' k3' k4' k5' k6' ho40 ho4 hox hN hS
  go_enter Tryd.func15, Tryd.ntmps15
  go_upto_region 1 with fail
  have hB : Blk (w.alloc (.cells #[.int .i64 f.tos, .int .i64 f.id, .int .i64 f.fl, .int .i64 f.off, .int .i64 f.ttl, .int .i64 f.pr, .int .u32 f.si, .int .u32 f.di, .slice p1 f.o.length k1, .slice p2 f.x.length k2] 25)) w.heap.size #[.int .i64 f.tos, .int .i64 f.id, .int .i64 f.fl, .int .i64 f.off, .int .i64 f.ttl, .int .i64 f.pr, .int .u32 f.si, .int .u32 f.di, .slice p1 f.o.length k1, .slice p2 f.x.length k2] 25 := Blk.new _ _ _ _ rfl
  have g0 : Grew w (w.alloc (.cells #[.int .i64 f.tos, .int .i64 f.id, .int .i64 f.fl, .int .i64 f.off, .int .i64 f.ttl, .int .i64 f.pr, .int .u32 f.si, .int .u32 f.di, .slice p1 f.o.length k1, .slice p2 f.x.length k2] 25)) := (Grew.refl _).alloc _
  generalize (w.alloc (.cells #[.int .i64 f.tos, .int .i64 f.id, .int .i64 f.fl, .int .i64 f.off, .int .i64 f.ttl, .int .i64 f.pr, .int .u32 f.si, .int .u32 f.di, .slice p1 f.o.length k1, .slice p2 f.x.length k2] 25)) = w0 at *
  generalize hlB : w.heap.size = B at *
  have y0 := hB.cell 0
  have y1 := hB.cell 1
  have y2 := hB.cell 2
  have y3 := hB.cell 3
  have y4 := hB.cell 4
  have y5 := hB.cell 5
  have y6 := hB.cell 6
  have y7 := hB.cell 7
  have y8 := hB.cell 8
  have y9 := hB.cell 9
  go_wp2_with fail
  refine (isPacket_c hx (HV.out.grew g0)).mono ?_
  rintro e w1 ⟨rfl, g1⟩
  rw [HOK.out]
  have G1 := g0.trans g1
  have hB1 := hB.grew g1
  clear y0 y1 y2 y3 y4 y5 y6 y7 y8 y9 hB
  have y0 := hB1.cell 0
  have y1 := hB1.cell 1
  have y2 := hB1.cell 2
  have y3 := hB1.cell 3
  have y4 := hB1.cell 4
  have y5 := hB1.cell 5
  have y6 := hB1.cell 6
  have y7 := hB1.cell 7
  have y8 := hB1.cell 8
  have y9 := hB1.cell 9
  go_wp2_with fail
  refine (sizeOf_c HLO.out hx _).mono ?_
  rintro e w2 ⟨rfl, g2⟩
  have G2 := G1.trans g2
  have hB2 := hB1.grew g2
  clear y0 y1 y2 y3 y4 y5 y6 y7 y8 y9 hB1
  have y0 := hB2.cell 0
  have y1 := hB2.cell 1
  have y2 := hB2.cell 2
  have y3 := hB2.cell 3
  have y4 := hB2.cell 4
  have y5 := hB2.cell 5
  have y6 := hB2.cell 6
  have y7 := hB2.cell 7
  have y8 := hB2.cell 8
  have y9 := hB2.cell 9
  go_wp2_with fail
  refine (headSize_c HLO.out _).mono ?_
  rintro e w3 ⟨rfl, g3⟩
  have G3 := G2.trans g3
  have hB3 := hB2.grew g3
  clear y0 y1 y2 y3 y4 y5 y6 y7 y8 y9 hB2
  go_wp2_with fail
  go_ret2
  exact ⟨_, rfl, Pks.nil _, G3⟩
set_option maxHeartbeats 4000000 in
theorem cut_4 {f : PK} {p1 : Option Addr} {k1 : Nat} {p2 : Option Addr} {k2 : Nat} (mtu : Int) (hm0 : -9223372036854775808 ≤ mtu) (hm1 : mtu ≤ 9223372036854775807) (hx : f.x.length ≤ 140737488355328) (hok : okP f = true) (hz : ¬ (szN f : Int) ≤ mtu) (hf : (bits .and .i64 f.fl 2 != 0) = false) (hd : ¬ mtu < (hdN f : Int) + 8) (hu : 8191 < f.off + ((f.x.length : Int) + 7) / 8) {w : World} (hv : Pk w (.agg #[.int .i64 f.tos, .int .i64 f.id, .int .i64 f.fl, .int .i64 f.off, .int .i64 f.ttl, .int .i64 f.pr, .int .u32 f.si, .int .u32 f.di, .slice p1 f.o.length k1, .slice p2 f.x.length k2]) f) :
    Calls Tryd.prog 15 #[.agg #[.int .i64 f.tos, .int .i64 f.id, .int .i64 f.fl, .int .i64 f.off, .int .i64 f.ttl, .int .i64 f.pr, .int .u32 f.si, .int .u32 f.di, .slice p1 f.o.length k1, .slice p2 f.x.length k2], .int .i64 mtu] w fun e w' => ∃ u, e = .returned (.tuple #[u, .int .i64 2]) ∧ Pks w' u [] ∧ Grew w w' := by
  have HV := Lib.hid hv
  have hk := okP_spec hok
  obtain ⟨⟨k1', k2', k3', k4', k5', k6'⟩, ho40, ho4, hox⟩ := hk
  have hN : (hdN f : Int) = 20 + (f.o.length : Nat) := by unfold hdN; omega
  have hS : (szN f : Int) = (hdN f : Int) + (f.x.length : Nat) := by unfold szN; omega
  have HLO := Lib.hid (show f.o.length ≤ 140737488355328 by omega)
  have HX := Lib.hid hx
  have e8 : IntKind.i64.wrap ((hdN f : Int) + 8) = (hdN f : Int) + 8 := IntWalk.i64_in _ (by omega)
  have HU : Hid (IntKind.i64.wrap (f.off + ((f.x.length : Int) + 7) / 8) = f.off + ((f.x.length : Int) + 7) / 8) := Lib.hid (IntWalk.i64_in _ (by omega))
  have HUU := Lib.hid hu
  clear hu
  have HOK := Lib.hid hok
  clear hv hok k1' k2' k3' k4' k5' k6' ho40 ho4 hox hN hS
  go_enter Tryd.func15, Tryd.ntmps15
  go_upto_region 1 with fail
  have hB : Blk (w.alloc (.cells #[.int .i64 f.tos, .int .i64 f.id, .int .i64 f.fl, .int .i64 f.off, .int .i64 f.ttl, .int .i64 f.pr, .int .u32 f.si, .int .u32 f.di, .slice p1 f.o.length k1, .slice p2 f.x.length k2] 25)) w.heap.size #[.int .i64 f.tos, .int .i64 f.id, .int .i64 f.fl, .int .i64 f.off, .int .i64 f.ttl, .int .i64 f.pr, .int .u32 f.si, .int .u32 f.di, .slice p1 f.o.length k1, .slice p2 f.x.length k2] 25 := Blk.new _ _ _ _ rfl
  have g0 : Grew w (w.alloc (.cells #[.int .i64 f.tos, .int .i64 f.id, .int .i64 f.fl, .int .i64 f.off, .int .i64 f.ttl, .int .i64 f.pr, .int .u32 f.si, .int .u32 f.di, .slice p1 f.o.length k1, .slice p2 f.x.length k2] 25)) := (Grew.refl _).alloc _
  generalize (w.alloc (.cells #[.int .i64 f.tos, .int .i64 f.id, .int .i64 f.fl, .int .i64 f.off, .int .i64 f.ttl, .int .i64 f.pr, .int .u32 f.si, .int .u32 f.di, .slice p1 f.o.length k1, .slice p2 f.x.length k2] 25)) = w0 at *
  generalize hlB : w.heap.size = B at *
  have y0 := hB.cell 0
  have y1 := hB.cell 1
  have y2 := hB.cell 2
  have y3 := hB.cell 3
  have y4 := hB.cell 4
  have y5 := hB.cell 5
  have y6 := hB.cell 6
  have y7 := hB.cell 7
  have y8 := hB.cell 8
  have y9 := hB.cell 9
  go_wp2_with fail
  refine (isPacket_c hx (HV.out.grew g0)).mono ?_
  rintro e w1 ⟨rfl, g1⟩
  rw [HOK.out]
  have G1 := g0.trans g1
  have hB1 := hB.grew g1
  clear y0 y1 y2 y3 y4 y5 y6 y7 y8 y9 hB
  have y0 := hB1.cell 0
  have y1 := hB1.cell 1
  have y2 := hB1.cell 2
  have y3 := hB1.cell 3
  have y4 := hB1.cell 4
  have y5 := hB1.cell 5
  have y6 := hB1.cell 6
  have y7 := hB1.cell 7
  have y8 := hB1.cell 8
  have y9 := hB1.cell 9
  go_wp2_with fail
  refine (sizeOf_c HLO.out hx _).mono ?_
  rintro e w2 ⟨rfl, g2⟩
  have G2 := G1.trans g2
  have hB2 := hB1.grew g2
  clear y0 y1 y2 y3 y4 y5 y6 y7 y8 y9 hB1
  have y0 := hB2.cell 0
  have y1 := hB2.cell 1
  have y2 := hB2.cell 2
  have y3 := hB2.cell 3
  have y4 := hB2.cell 4
  have y5 := hB2.cell 5
  have y6 := hB2.cell 6
  have y7 := hB2.cell 7
  have y8 := hB2.cell 8
  have y9 := hB2.cell 9
  go_wp2_with fail
  refine (headSize_c HLO.out _).mono ?_
  rintro e w3 ⟨rfl, g3⟩
  have G3 := G2.trans g3
  have hB3 := hB2.grew g3
  clear y0 y1 y2 y3 y4 y5 y6 y7 y8 y9 hB2
  go_upto_region 8 with fail
  have hst := (Grew.refl w3).drew1
  refine wp_region_held_drew (S := fun w' => Grew w3 w') (by kernel_rfl) (by exact hst) (fun hHeld => ?_)
  replace hHeld : Grew w3 w3.drew := hHeld
  generalize w3.drew = wq3 at *
  refine wpAnyH_take (i := 0) (v := ?_) rfl (by kernel_rfl) (by kernel_rfl) (by kernel_rfl) (fun _ _ _ h => h) (Or.inl ⟨by rfl, ?_⟩) hHeld ?_
  rotate_left
  · intro wq hSw
    replace hSw : Grew w3 wq := hSw
    go_simp
    try with_reducible rfl
  try simp only [List.getElem_toArray, List.getElem_cons_succ, List.getElem_cons_zero, Act.put, List.setIfInBounds_toArray, List.set_cons_zero, List.set_cons_succ]
  refine wpAnyH_take (i := 1) (v := ?_) rfl (by kernel_rfl) (by kernel_rfl) (by kernel_rfl) (fun _ _ _ h => h) (Or.inl ⟨by rfl, ?_⟩) hHeld ?_
  rotate_left
  · intro wq hSw
    replace hSw : Grew w3 wq := hSw
    have y3 := (hB3.grew hSw).cell 3
    go_simp
    try with_reducible rfl
  try simp only [List.getElem_toArray, List.getElem_cons_succ, List.getElem_cons_zero, Act.put, List.setIfInBounds_toArray, List.set_cons_zero, List.set_cons_succ]
  refine wpAnyH_take (i := 2) (v := ?_) rfl (by kernel_rfl) (by kernel_rfl) (by kernel_rfl) (fun _ _ _ h => h) (Or.inl ⟨by rfl, ?_⟩) hHeld ?_
  rotate_left
  · intro wq hSw
    replace hSw : Grew w3 wq := hSw
    go_simp
    try with_reducible rfl
  try simp only [List.getElem_toArray, List.getElem_cons_succ, List.getElem_cons_zero, Act.put, List.setIfInBounds_toArray, List.set_cons_zero, List.set_cons_succ]
  refine wpAnyH_take (i := 3) (v := ?_) rfl (by kernel_rfl) (by kernel_rfl) (by kernel_rfl) (fun _ _ _ h => h) (Or.inl ⟨by rfl, ?_⟩) hHeld ?_
  rotate_left
  · intro wq hSw
    replace hSw : Grew w3 wq := hSw
    have y9 := (hB3.grew hSw).cell 9
    go_simp
    try with_reducible rfl
  try simp only [List.getElem_toArray, List.getElem_cons_succ, List.getElem_cons_zero, Act.put, List.setIfInBounds_toArray, List.set_cons_zero, List.set_cons_succ]
  refine wpAnyH_take (i := 4) (v := ?_) rfl (by kernel_rfl) (by kernel_rfl) (by kernel_rfl) (fun _ _ _ h => h) (Or.inl ⟨by rfl, ?_⟩) hHeld ?_
  rotate_left
  · intro wq hSw
    replace hSw : Grew w3 wq := hSw
    go_simp
    try with_reducible rfl
  try simp only [List.getElem_toArray, List.getElem_cons_succ, List.getElem_cons_zero, Act.put, List.setIfInBounds_toArray, List.set_cons_zero, List.set_cons_succ]
  refine wpAnyH_ready (rs := [5]) (by kernel_rfl) (by simp) ?_
  refine AllReadyH.cons rfl (fun K hK => ?_) AllReadyH.nil
  go_simp
  refine (units_g _ (by omega) (by have := HX.out; omega) wq3).mono ?_
  rintro e wk4 ⟨rfl, gk4⟩
  refine hK.out _ _ (hHeld.trans gk4) (fun hHeld => ?_)
  clear hK K
  try simp only [List.getElem_toArray, List.getElem_cons_succ, List.getElem_cons_zero, Act.put, List.setIfInBounds_toArray, List.set_cons_zero, List.set_cons_succ]
  refine wpAnyH_take (i := 6) (v := ?_) rfl (by kernel_rfl) (by kernel_rfl) (by kernel_rfl) (fun _ _ _ h => h) (Or.inl ⟨by rfl, ?_⟩) hHeld ?_
  rotate_left
  · intro wq hSw
    replace hSw : Grew w3 wq := hSw
    have ew := HU.out
    go_simp
    try with_reducible rfl
  try simp only [List.getElem_toArray, List.getElem_cons_succ, List.getElem_cons_zero, Act.put, List.setIfInBounds_toArray, List.set_cons_zero, List.set_cons_succ]
  refine wpAnyH_take (i := 7) (v := ?_) rfl (by kernel_rfl) (by kernel_rfl) (by kernel_rfl) (fun _ _ _ h => h) (Or.inl ⟨by rfl, ?_⟩) hHeld ?_
  rotate_left
  · intro wq hSw
    replace hSw : Grew w3 wq := hSw
    go_simp
    try with_reducible rfl
  try simp only [List.getElem_toArray, List.getElem_cons_succ, List.getElem_cons_zero, Act.put, List.setIfInBounds_toArray, List.set_cons_zero, List.set_cons_succ]
  refine wpAnyH_take (i := 8) (v := ?_) rfl (by kernel_rfl) (by kernel_rfl) (by kernel_rfl) (fun _ _ _ h => h) (Or.inl ⟨by rfl, ?_⟩) hHeld ?_
  rotate_left
  · intro wq hSw
    replace hSw : Grew w3 wq := hSw
    go_simp
    try with_reducible rfl
  try simp only [List.getElem_toArray, List.getElem_cons_succ, List.getElem_cons_zero, Act.put, List.setIfInBounds_toArray, List.set_cons_zero, List.set_cons_succ]
  refine wpAnyH_done (by kernel_rfl) ?_ _
  try simp only [List.getElem_toArray, List.getElem_cons_succ, List.getElem_cons_zero, Act.put, List.setIfInBounds_toArray, List.set_cons_zero, List.set_cons_succ]
  have G4 := G3.trans hHeld
  have hB4 := hB3.grew hHeld
  have hu := HUU.out
  clear hHeld
  go_wp2_with fail
  go_ret2
  exact ⟨_, rfl, Pks.nil _, G4⟩
set_option maxHeartbeats 4000000 in
theorem cut_5 {f : PK} {p1 : Option Addr} {k1 : Nat} {p2 : Option Addr} {k2 : Nat} (mtu : Int) (hm0 : -9223372036854775808 ≤ mtu) (hm1 : mtu ≤ 9223372036854775807) (hx : f.x.length ≤ 140737488355328) (hok : okP f = true) (hz : ¬ (szN f : Int) ≤ mtu) (hf : (bits .and .i64 f.fl 2 != 0) = false) (hd : ¬ mtu < (hdN f : Int) + 8) (hu : ¬ 8191 < f.off + ((f.x.length : Int) + 7) / 8) {w : World} (hv : Pk w (.agg #[.int .i64 f.tos, .int .i64 f.id, .int .i64 f.fl, .int .i64 f.off, .int .i64 f.ttl, .int .i64 f.pr, .int .u32 f.si, .int .u32 f.di, .slice p1 f.o.length k1, .slice p2 f.x.length k2]) f) :
    Calls Tryd.prog 15 #[.agg #[.int .i64 f.tos, .int .i64 f.id, .int .i64 f.fl, .int .i64 f.off, .int .i64 f.ttl, .int .i64 f.pr, .int .u32 f.si, .int .u32 f.di, .slice p1 f.o.length k1, .slice p2 f.x.length k2], .int .i64 mtu] w fun e w' => ∃ u, e = .returned (.tuple #[u, .int .i64 0]) ∧ Pks w' u (piecesTo f (cutM f mtu) (nP f (cutM f mtu))) ∧ Grew w w' := by
  have HV := Lib.hid hv
  have hk := okP_spec hok
  obtain ⟨⟨k1', k2', k3', k4', k5', k6'⟩, ho40, ho4, hox⟩ := hk
  have hN : (hdN f : Int) = 20 + (f.o.length : Nat) := by unfold hdN; omega
  have hS : (szN f : Int) = (hdN f : Int) + (f.x.length : Nat) := by unfold szN; omega
  have HLO := Lib.hid (show f.o.length ≤ 140737488355328 by omega)
  have HX := Lib.hid hx
  obtain ⟨q1, r1, q2, r2, eq', hb1, hb2⟩ := hv.shape
  simp only [pkV, Value.agg.injEq, Array.mk.injEq, List.cons.injEq, Value.slice.injEq, and_true, true_and] at eq'
  obtain ⟨⟨rfl, rfl⟩, rfl, rfl⟩ := eq'
  have H1 := Lib.hid hb1
  have H2 := Lib.hid hb2
  obtain ⟨N, hNn⟩ : ∃ N : Nat, mtu = (N : Int) := ⟨mtu.toNat, by omega⟩
  obtain ⟨D, hD⟩ : ∃ D : Nat, D = N - hdN f := ⟨_, rfl⟩
  obtain ⟨Q, hQ⟩ : ∃ Q : Nat, Q = D / 8 := ⟨_, rfl⟩
  have HM : Hid (cutM f mtu = Q * 8) := Lib.hid (by unfold cutM; rw [hNn]; omega)
  have HQ0 := Lib.hid (show 0 < Q * 8 ∧ Q * 8 ≤ 65535 by omega)
  have EW1 : Hid (IntKind.i64.wrap ((N : Int) - (hdN f : Nat)) = (D : Int)) := Lib.hid (by rw [IntWalk.i64_in _ (by omega)]; omega)
  have EW2 : Hid (IntKind.i64.wrap ((D : Int) / 8) = (Q : Int)) := Lib.hid (by rw [IntWalk.i64_in _ (by omega)]; omega)
  have EW3 : Hid (IntKind.i64.wrap ((Q : Int) * 8) = ((Q * 8 : Nat) : Int)) := Lib.hid (by rw [IntWalk.i64_in _ (by omega)]; omega)
  clear hb1 hb2
  have e8 : IntKind.i64.wrap ((hdN f : Int) + 8) = (hdN f : Int) + 8 := IntWalk.i64_in _ (by omega)
  have HU : Hid (IntKind.i64.wrap (f.off + ((f.x.length : Int) + 7) / 8) = f.off + ((f.x.length : Int) + 7) / 8) := Lib.hid (IntWalk.i64_in _ (by omega))
  have HUU := Lib.hid hu
  clear hu
  have HOK := Lib.hid hok
  clear hv hok k1' k2' k3' k4' k5' k6' ho40 ho4 hox hN hS hD hQ
  subst hNn
  go_enter Tryd.func15, Tryd.ntmps15
  go_upto_region 1 with fail
  have hB : Blk (w.alloc (.cells #[.int .i64 f.tos, .int .i64 f.id, .int .i64 f.fl, .int .i64 f.off, .int .i64 f.ttl, .int .i64 f.pr, .int .u32 f.si, .int .u32 f.di, .slice p1 f.o.length k1, .slice p2 f.x.length k2] 25)) w.heap.size #[.int .i64 f.tos, .int .i64 f.id, .int .i64 f.fl, .int .i64 f.off, .int .i64 f.ttl, .int .i64 f.pr, .int .u32 f.si, .int .u32 f.di, .slice p1 f.o.length k1, .slice p2 f.x.length k2] 25 := Blk.new _ _ _ _ rfl
  have g0 : Grew w (w.alloc (.cells #[.int .i64 f.tos, .int .i64 f.id, .int .i64 f.fl, .int .i64 f.off, .int .i64 f.ttl, .int .i64 f.pr, .int .u32 f.si, .int .u32 f.di, .slice p1 f.o.length k1, .slice p2 f.x.length k2] 25)) := (Grew.refl _).alloc _
  generalize (w.alloc (.cells #[.int .i64 f.tos, .int .i64 f.id, .int .i64 f.fl, .int .i64 f.off, .int .i64 f.ttl, .int .i64 f.pr, .int .u32 f.si, .int .u32 f.di, .slice p1 f.o.length k1, .slice p2 f.x.length k2] 25)) = w0 at *
  generalize hlB : w.heap.size = B at *
  have y0 := hB.cell 0
  have y1 := hB.cell 1
  have y2 := hB.cell 2
  have y3 := hB.cell 3
  have y4 := hB.cell 4
  have y5 := hB.cell 5
  have y6 := hB.cell 6
  have y7 := hB.cell 7
  have y8 := hB.cell 8
  have y9 := hB.cell 9
  go_wp2_with fail
  refine (isPacket_c hx (HV.out.grew g0)).mono ?_
  rintro e w1 ⟨rfl, g1⟩
  rw [HOK.out]
  have G1 := g0.trans g1
  have hB1 := hB.grew g1
  clear y0 y1 y2 y3 y4 y5 y6 y7 y8 y9 hB
  have y0 := hB1.cell 0
  have y1 := hB1.cell 1
  have y2 := hB1.cell 2
  have y3 := hB1.cell 3
  have y4 := hB1.cell 4
  have y5 := hB1.cell 5
  have y6 := hB1.cell 6
  have y7 := hB1.cell 7
  have y8 := hB1.cell 8
  have y9 := hB1.cell 9
  go_wp2_with fail
  refine (sizeOf_c HLO.out hx _).mono ?_
  rintro e w2 ⟨rfl, g2⟩
  have G2 := G1.trans g2
  have hB2 := hB1.grew g2
  clear y0 y1 y2 y3 y4 y5 y6 y7 y8 y9 hB1
  have y0 := hB2.cell 0
  have y1 := hB2.cell 1
  have y2 := hB2.cell 2
  have y3 := hB2.cell 3
  have y4 := hB2.cell 4
  have y5 := hB2.cell 5
  have y6 := hB2.cell 6
  have y7 := hB2.cell 7
  have y8 := hB2.cell 8
  have y9 := hB2.cell 9
  go_wp2_with fail
  refine (headSize_c HLO.out _).mono ?_
  rintro e w3 ⟨rfl, g3⟩
  have G3 := G2.trans g3
  have hB3 := hB2.grew g3
  clear y0 y1 y2 y3 y4 y5 y6 y7 y8 y9 hB2
  go_upto_region 8 with fail
  have hst := (Grew.refl w3).drew1
  refine wp_region_held_drew (S := fun w' => Grew w3 w') (by kernel_rfl) (by exact hst) (fun hHeld => ?_)
  replace hHeld : Grew w3 w3.drew := hHeld
  generalize w3.drew = wq5 at *
  refine wpAnyH_take (i := 0) (v := ?_) rfl (by kernel_rfl) (by kernel_rfl) (by kernel_rfl) (fun _ _ _ h => h) (Or.inl ⟨by rfl, ?_⟩) hHeld ?_
  rotate_left
  · intro wq hSw
    replace hSw : Grew w3 wq := hSw
    go_simp
    try with_reducible rfl
  try simp only [List.getElem_toArray, List.getElem_cons_succ, List.getElem_cons_zero, Act.put, List.setIfInBounds_toArray, List.set_cons_zero, List.set_cons_succ]
  refine wpAnyH_take (i := 1) (v := ?_) rfl (by kernel_rfl) (by kernel_rfl) (by kernel_rfl) (fun _ _ _ h => h) (Or.inl ⟨by rfl, ?_⟩) hHeld ?_
  rotate_left
  · intro wq hSw
    replace hSw : Grew w3 wq := hSw
    have y3 := (hB3.grew hSw).cell 3
    go_simp
    try with_reducible rfl
  try simp only [List.getElem_toArray, List.getElem_cons_succ, List.getElem_cons_zero, Act.put, List.setIfInBounds_toArray, List.set_cons_zero, List.set_cons_succ]
  refine wpAnyH_take (i := 2) (v := ?_) rfl (by kernel_rfl) (by kernel_rfl) (by kernel_rfl) (fun _ _ _ h => h) (Or.inl ⟨by rfl, ?_⟩) hHeld ?_
  rotate_left
  · intro wq hSw
    replace hSw : Grew w3 wq := hSw
    go_simp
    try with_reducible rfl
  try simp only [List.getElem_toArray, List.getElem_cons_succ, List.getElem_cons_zero, Act.put, List.setIfInBounds_toArray, List.set_cons_zero, List.set_cons_succ]
  refine wpAnyH_take (i := 3) (v := ?_) rfl (by kernel_rfl) (by kernel_rfl) (by kernel_rfl) (fun _ _ _ h => h) (Or.inl ⟨by rfl, ?_⟩) hHeld ?_
  rotate_left
  · intro wq hSw
    replace hSw : Grew w3 wq := hSw
    have y9 := (hB3.grew hSw).cell 9
    go_simp
    try with_reducible rfl
  try simp only [List.getElem_toArray, List.getElem_cons_succ, List.getElem_cons_zero, Act.put, List.setIfInBounds_toArray, List.set_cons_zero, List.set_cons_succ]
  refine wpAnyH_take (i := 4) (v := ?_) rfl (by kernel_rfl) (by kernel_rfl) (by kernel_rfl) (fun _ _ _ h => h) (Or.inl ⟨by rfl, ?_⟩) hHeld ?_
  rotate_left
  · intro wq hSw
    replace hSw : Grew w3 wq := hSw
    go_simp
    try with_reducible rfl
  try simp only [List.getElem_toArray, List.getElem_cons_succ, List.getElem_cons_zero, Act.put, List.setIfInBounds_toArray, List.set_cons_zero, List.set_cons_succ]
  refine wpAnyH_ready (rs := [5]) (by kernel_rfl) (by simp) ?_
  refine AllReadyH.cons rfl (fun K hK => ?_) AllReadyH.nil
  go_simp
  refine (units_g _ (by omega) (by have := HX.out; omega) wq5).mono ?_
  rintro e wk6 ⟨rfl, gk6⟩
  refine hK.out _ _ (hHeld.trans gk6) (fun hHeld => ?_)
  clear hK K
  try simp only [List.getElem_toArray, List.getElem_cons_succ, List.getElem_cons_zero, Act.put, List.setIfInBounds_toArray, List.set_cons_zero, List.set_cons_succ]
  refine wpAnyH_take (i := 6) (v := ?_) rfl (by kernel_rfl) (by kernel_rfl) (by kernel_rfl) (fun _ _ _ h => h) (Or.inl ⟨by rfl, ?_⟩) hHeld ?_
  rotate_left
  · intro wq hSw
    replace hSw : Grew w3 wq := hSw
    have ew := HU.out
    go_simp
    try with_reducible rfl
  try simp only [List.getElem_toArray, List.getElem_cons_succ, List.getElem_cons_zero, Act.put, List.setIfInBounds_toArray, List.set_cons_zero, List.set_cons_succ]
  refine wpAnyH_take (i := 7) (v := ?_) rfl (by kernel_rfl) (by kernel_rfl) (by kernel_rfl) (fun _ _ _ h => h) (Or.inl ⟨by rfl, ?_⟩) hHeld ?_
  rotate_left
  · intro wq hSw
    replace hSw : Grew w3 wq := hSw
    go_simp
    try with_reducible rfl
  try simp only [List.getElem_toArray, List.getElem_cons_succ, List.getElem_cons_zero, Act.put, List.setIfInBounds_toArray, List.set_cons_zero, List.set_cons_succ]
  refine wpAnyH_take (i := 8) (v := ?_) rfl (by kernel_rfl) (by kernel_rfl) (by kernel_rfl) (fun _ _ _ h => h) (Or.inl ⟨by rfl, ?_⟩) hHeld ?_
  rotate_left
  · intro wq hSw
    replace hSw : Grew w3 wq := hSw
    go_simp
    try with_reducible rfl
  try simp only [List.getElem_toArray, List.getElem_cons_succ, List.getElem_cons_zero, Act.put, List.setIfInBounds_toArray, List.set_cons_zero, List.set_cons_succ]
  refine wpAnyH_done (by kernel_rfl) ?_ _
  try simp only [List.getElem_toArray, List.getElem_cons_succ, List.getElem_cons_zero, Act.put, List.setIfInBounds_toArray, List.set_cons_zero, List.set_cons_succ]
  have G4 := G3.trans hHeld
  have hB4 := hB3.grew hHeld
  have hu := HUU.out
  clear hHeld
  go_upto_region 10 with fail
  clear hu
  have hst := (Grew.refl wk6).drew1
  refine wp_region_held_drew (S := fun w' => Grew wk6 w') (by kernel_rfl) (by exact hst) (fun hHeld => ?_)
  replace hHeld : Grew wk6 wk6.drew := hHeld
  generalize wk6.drew = wq7 at *
  refine wpAnyH_take (i := 0) (v := ?_) rfl (by kernel_rfl) (by kernel_rfl) (by kernel_rfl) (fun _ _ _ h => h) (Or.inl ⟨by rfl, ?_⟩) hHeld ?_
  rotate_left
  · intro wq hSw
    replace hSw : Grew wk6 wq := hSw
    have y0 := (hB4.grew hSw).cell 0
    have y1 := (hB4.grew hSw).cell 1
    have y2 := (hB4.grew hSw).cell 2
    have y3 := (hB4.grew hSw).cell 3
    have y4 := (hB4.grew hSw).cell 4
    have y5 := (hB4.grew hSw).cell 5
    have y6 := (hB4.grew hSw).cell 6
    have y7 := (hB4.grew hSw).cell 7
    have y8 := (hB4.grew hSw).cell 8
    have y9 := (hB4.grew hSw).cell 9
    go_simp
    try with_reducible rfl
  try simp only [List.getElem_toArray, List.getElem_cons_succ, List.getElem_cons_zero, Act.put, List.setIfInBounds_toArray, List.set_cons_zero, List.set_cons_succ]
  refine wpAnyH_take (i := 1) (v := ?_) rfl (by kernel_rfl) (by kernel_rfl) (by kernel_rfl) (fun _ _ _ h => h) (Or.inl ⟨by rfl, ?_⟩) hHeld ?_
  rotate_left
  · intro wq hSw
    replace hSw : Grew wk6 wq := hSw
    go_simp
    try with_reducible rfl
  try simp only [List.getElem_toArray, List.getElem_cons_succ, List.getElem_cons_zero, Act.put, List.setIfInBounds_toArray, List.set_cons_zero, List.set_cons_succ]
  refine wpAnyH_take (i := 2) (v := ?_) rfl (by kernel_rfl) (by kernel_rfl) (by kernel_rfl) (fun _ _ _ h => h) (Or.inl ⟨by rfl, ?_⟩) hHeld ?_
  rotate_left
  · intro wq hSw
    replace hSw : Grew wk6 wq := hSw
    have y0 := (hB4.grew hSw).cell 0
    have y1 := (hB4.grew hSw).cell 1
    have y2 := (hB4.grew hSw).cell 2
    have y3 := (hB4.grew hSw).cell 3
    have y4 := (hB4.grew hSw).cell 4
    have y5 := (hB4.grew hSw).cell 5
    have y6 := (hB4.grew hSw).cell 6
    have y7 := (hB4.grew hSw).cell 7
    have y8 := (hB4.grew hSw).cell 8
    have y9 := (hB4.grew hSw).cell 9
    go_simp
    try with_reducible rfl
  try simp only [List.getElem_toArray, List.getElem_cons_succ, List.getElem_cons_zero, Act.put, List.setIfInBounds_toArray, List.set_cons_zero, List.set_cons_succ]
  refine wpAnyH_ready (rs := [3]) (by kernel_rfl) (by simp) ?_
  refine AllReadyH.cons rfl (fun K hK => ?_) AllReadyH.nil
  go_simp
  refine (headSize_c HLO.out wq7).mono ?_
  rintro e wk8 ⟨rfl, gk8⟩
  refine hK.out _ _ (hHeld.trans gk8) (fun hHeld => ?_)
  clear hK K
  try simp only [List.getElem_toArray, List.getElem_cons_succ, List.getElem_cons_zero, Act.put, List.setIfInBounds_toArray, List.set_cons_zero, List.set_cons_succ]
  refine wpAnyH_take (i := 4) (v := ?_) rfl (by kernel_rfl) (by kernel_rfl) (by kernel_rfl) (fun _ _ _ h => h) (Or.inl ⟨by rfl, ?_⟩) hHeld ?_
  rotate_left
  · intro wq hSw
    replace hSw : Grew wk6 wq := hSw
    have ew := EW1.out
    go_simp
    try with_reducible rfl
  try simp only [List.getElem_toArray, List.getElem_cons_succ, List.getElem_cons_zero, Act.put, List.setIfInBounds_toArray, List.set_cons_zero, List.set_cons_succ]
  refine wpAnyH_take (i := 5) (v := ?_) rfl (by kernel_rfl) (by kernel_rfl) (by kernel_rfl) (fun _ _ _ h => h) (Or.inl ⟨by rfl, ?_⟩) hHeld ?_
  rotate_left
  · intro wq hSw
    replace hSw : Grew wk6 wq := hSw
    have ew := EW2.out
    go_simp
    try with_reducible rfl
  try simp only [List.getElem_toArray, List.getElem_cons_succ, List.getElem_cons_zero, Act.put, List.setIfInBounds_toArray, List.set_cons_zero, List.set_cons_succ]
  refine wpAnyH_take (i := 6) (v := ?_) rfl (by kernel_rfl) (by kernel_rfl) (by kernel_rfl) (fun _ _ _ h => h) (Or.inl ⟨by rfl, ?_⟩) hHeld ?_
  rotate_left
  · intro wq hSw
    replace hSw : Grew wk6 wq := hSw
    have ew := EW3.out
    go_simp
    try with_reducible rfl
  try simp only [List.getElem_toArray, List.getElem_cons_succ, List.getElem_cons_zero, Act.put, List.setIfInBounds_toArray, List.set_cons_zero, List.set_cons_succ]
  refine wpAnyH_ready (rs := [7]) (by kernel_rfl) (by simp) ?_
  refine AllReadyH.cons rfl (fun K hK => ?_) AllReadyH.nil
  go_simp
  refine (pieces_c (Q * 8) HQ0.out.1 HQ0.out.2 HOK.out (HV.out.grew (G4.trans hHeld)) (H1.out.grew (G4.trans hHeld)) (H2.out.grew (G4.trans hHeld))).mono ?_
  rintro e wk9 ⟨u, rfl, HPR, gk9⟩
  replace HPR := Lib.hid HPR
  refine hK.out _ _ (hHeld.trans gk9) (fun hHeld => ?_)
  clear hK K
  try simp only [List.getElem_toArray, List.getElem_cons_succ, List.getElem_cons_zero, Act.put, List.setIfInBounds_toArray, List.set_cons_zero, List.set_cons_succ]
  refine wpAnyH_take (i := 8) (v := ?_) rfl (by kernel_rfl) (by kernel_rfl) (by kernel_rfl) (fun _ _ _ h => h) (Or.inl ⟨by rfl, ?_⟩) hHeld ?_
  rotate_left
  · intro wq hSw
    replace hSw : Grew wk6 wq := hSw
    go_simp
    try with_reducible rfl
  try simp only [List.getElem_toArray, List.getElem_cons_succ, List.getElem_cons_zero, Act.put, List.setIfInBounds_toArray, List.set_cons_zero, List.set_cons_succ]
  refine wpAnyH_take (i := 9) (v := ?_) rfl (by kernel_rfl) (by kernel_rfl) (by kernel_rfl) (fun _ _ _ h => h) (Or.inl ⟨by rfl, ?_⟩) hHeld ?_
  rotate_left
  · intro wq hSw
    replace hSw : Grew wk6 wq := hSw
    go_simp
    try with_reducible rfl
  try simp only [List.getElem_toArray, List.getElem_cons_succ, List.getElem_cons_zero, Act.put, List.setIfInBounds_toArray, List.set_cons_zero, List.set_cons_succ]
  refine wpAnyH_done (by kernel_rfl) ?_ _
  try simp only [List.getElem_toArray, List.getElem_cons_succ, List.getElem_cons_zero, Act.put, List.setIfInBounds_toArray, List.set_cons_zero, List.set_cons_succ]
  go_wp2_with fail
  go_ret2
  exact ⟨_, rfl, by rw [HM.out]; exact HPR.out.read, G4.trans hHeld⟩
theorem Cut17_c {v : Value} {f : PK} (mtu : Int) (hm0 : -9223372036854775808 ≤ mtu) (hm1 : mtu ≤ 9223372036854775807) (hx : f.x.length ≤ 140737488355328) {w : World} (hv : Pk w v f) :
    Calls Tryd.prog 15 #[v, .int .i64 mtu] w fun e w' => ∃ u, e = .returned (.tuple #[u, .int .i64 (cutE f mtu)]) ∧ Pks w' u (cutP f mtu) ∧ Grew w w' := by
  have hv' := hv
  obtain ⟨p1, k1, p2, k2, rfl, _, _⟩ := hv'.shape
  cases hok : okP f
  · have he : cutE f mtu = 2 := by unfold cutE; rw [if_pos hok]
    have hp : cutP f mtu = [] := by unfold cutP; rw [he, if_pos (by omega)]
    rw [he, hp]; exact cut_0 mtu hm0 hm1 hx hok hv
  · have hk := okP_spec hok
    have hok' : ¬ okP f = false := by rw [hok]; simp
    have ha := and_two f.fl (by omega) (by omega)
    by_cases hz : (szN f : Int) ≤ mtu
    · have he : cutE f mtu = 0 := by unfold cutE; rw [if_neg hok', if_pos hz]
      have hp : cutP f mtu = [f] := by unfold cutP; rw [he, if_neg (by omega), if_pos hz]
      rw [he, hp]; exact cut_1 mtu hm0 hm1 hx hok hz hv
    · by_cases hf : f.fl / 2 % 2 = 1
      · have he : cutE f mtu = 161 := by unfold cutE; rw [if_neg hok', if_neg hz, if_pos hf]
        have hp : cutP f mtu = [] := by unfold cutP; rw [he, if_pos (by omega)]
        rw [he, hp]; exact cut_2 mtu hm0 hm1 hx hok hz (by rw [ha]; exact decide_eq_true hf) hv
      · have hf' : (bits .and .i64 f.fl 2 != 0) = false := by rw [ha]; exact decide_eq_false hf
        by_cases hd : mtu < (hdN f : Int) + 8
        · have he : cutE f mtu = 2 := by unfold cutE; rw [if_neg hok', if_neg hz, if_neg hf, if_pos hd]
          have hp : cutP f mtu = [] := by unfold cutP; rw [he, if_pos (by omega)]
          rw [he, hp]; exact cut_3 mtu hm0 hm1 hx hok hz hf' hd hv
        · by_cases hu : 8191 < f.off + ((f.x.length : Int) + 7) / 8
          · have he : cutE f mtu = 2 := by unfold cutE; rw [if_neg hok', if_neg hz, if_neg hf, if_neg hd, if_pos hu]
            have hp : cutP f mtu = [] := by unfold cutP; rw [he, if_pos (by omega)]
            rw [he, hp]; exact cut_4 mtu hm0 hm1 hx hok hz hf' hd hu hv
          · have he : cutE f mtu = 0 := by unfold cutE; rw [if_neg hok', if_neg hz, if_neg hf, if_neg hd, if_neg hu]
            have hp : cutP f mtu = piecesTo f (cutM f mtu) (nP f (cutM f mtu)) := by unfold cutP; rw [he, if_neg (by omega), if_neg hz]
            rw [he, hp]; exact cut_5 mtu hm0 hm1 hx hok hz hf' hd hu hv
end Go.Proofs.YtalbdeifkbfnbaaDoor
