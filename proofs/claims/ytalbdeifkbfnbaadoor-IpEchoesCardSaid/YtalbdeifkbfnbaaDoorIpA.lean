/-
  Package ip: small functions; whether a packet may be.
-/
import Derived.Test.YtalbdeifkbfnbaaDoorIpR
import Derived.Test.YtalbdeifkbfnbaaDoorSmA
import Derived.Test.YtalbdeifkbfnbaaDoorPutB
set_option maxRecDepth 4000
set_option linter.unusedVariables false
set_option linter.unusedSimpArgs false
namespace Go.Proofs.YtalbdeifkbfnbaaDoor
open Go.RowKit

theorem within_c (n most : Int) (b : Bool) (hb : inV n most = b) (w : World) :
    Calls Tryd.prog 37 #[.int .i64 n, .int .i64 most] w fun e w' => e = .returned (.bool b) ∧ w' = w := by
  subst hb
  by_cases h1 : 0 ≤ n
  · cases h2 : decide (n ≤ most)
    · rw [show inV n most = false by unfold inV; simp at h2; exact decide_eq_false (by omega)]
      go_enter Tryd.func37, Tryd.ntmps37
      go_wp2_with fail
      go_ret
      exact ⟨rfl, rfl⟩
    · rw [show inV n most = true by unfold inV; simp at h2; exact decide_eq_true (by omega)]
      go_enter Tryd.func37, Tryd.ntmps37
      go_wp2_with fail
      go_ret
      exact ⟨rfl, rfl⟩
  · rw [show inV n most = false by unfold inV; exact decide_eq_false (by omega)]
    go_enter Tryd.func37, Tryd.ntmps37
    go_wp2_with fail
    go_ret
    exact ⟨rfl, rfl⟩
theorem ipPair_c (x : Int) (h0 : 0 ≤ x) (h1 : x ≤ 9223372036854775807) (w : World) :
    Calls Tryd.prog 42 #[.int .i64 x] w fun e w' => ∃ a c, e = .returned (.slice a 2 c) ∧ Buf w' (.slice a 2 c) (putL x 2 true) ∧ Grew w w' := by
  have hw : IntKind.u64.wrap x = x := IntWalk.u64_in x (by omega)
  go_enter Tryd.func42, Tryd.ntmps42
  go_wp2_with fail
  try rw [hw]
  refine (putB_c x _ 2 true (by rfl) (by omega) (by omega) (by omega) _).mono ?_
  rintro e w1 ⟨u1, rfl, r1, b1, g1⟩
  obtain ⟨a, c, rfl, _, _⟩ := b1.shape
  rw [putB_len] at b1 ⊢
  have B1 := Lib.hid b1
  clear b1 r1
  go_wp2_with fail
  go_ret
  exact ⟨_, _, rfl, B1.out, g1⟩
theorem ipAddr_c (x : Int) (h0 : 0 ≤ x) (h1 : x ≤ 4294967295) (w : World) :
    Calls Tryd.prog 43 #[.int .u32 x] w fun e w' => ∃ a c, e = .returned (.slice a 4 c) ∧ Buf w' (.slice a 4 c) (putL x 4 true) ∧ Grew w w' := by
  have hw : IntKind.u64.wrap x = x := IntWalk.u64_in x (by omega)
  go_enter Tryd.func43, Tryd.ntmps43
  go_wp2_with fail
  try rw [hw]
  refine (putB_c x _ 4 true (by rfl) (by omega) (by omega) (by omega) _).mono ?_
  rintro e w1 ⟨u1, rfl, r1, b1, g1⟩
  obtain ⟨a, c, rfl, _, _⟩ := b1.shape
  rw [putB_len] at b1 ⊢
  have B1 := Lib.hid b1
  clear b1 r1
  go_wp2_with fail
  go_ret
  exact ⟨_, _, rfl, B1.out, g1⟩
theorem headSize_c {f : PK} {p1 : Option Addr} {k1 : Nat} {p2 : Option Addr} {k2 : Nat} (hl : f.o.length ≤ 140737488355328) (w : World) :
    Calls Tryd.prog 31 #[.agg #[.int .i64 f.tos, .int .i64 f.id, .int .i64 f.fl, .int .i64 f.off, .int .i64 f.ttl, .int .i64 f.pr, .int .u32 f.si, .int .u32 f.di, .slice p1 f.o.length k1, .slice p2 f.x.length k2]] w fun e w' => e = .returned (.int .i64 (hdN f : Nat)) ∧ Grew w w' := by
  have e5 : wrap64 (20 + (f.o.length : Int)) = (hdN f : Int) := by unfold hdN; rw [IntWalk.wrap64_in _ (by omega)]; omega
  go_enter Tryd.func31, Tryd.ntmps31
  go_upto_region 1 with fail
  have hB : Blk (w.alloc (.cells #[.int .i64 f.tos, .int .i64 f.id, .int .i64 f.fl, .int .i64 f.off, .int .i64 f.ttl, .int .i64 f.pr, .int .u32 f.si, .int .u32 f.di, .slice p1 f.o.length k1, .slice p2 f.x.length k2] 25)) w.heap.size #[.int .i64 f.tos, .int .i64 f.id, .int .i64 f.fl, .int .i64 f.off, .int .i64 f.ttl, .int .i64 f.pr, .int .u32 f.si, .int .u32 f.di, .slice p1 f.o.length k1, .slice p2 f.x.length k2] 25 := Blk.new _ _ _ _ rfl
  have g0 : Grew w (w.alloc (.cells #[.int .i64 f.tos, .int .i64 f.id, .int .i64 f.fl, .int .i64 f.off, .int .i64 f.ttl, .int .i64 f.pr, .int .u32 f.si, .int .u32 f.di, .slice p1 f.o.length k1, .slice p2 f.x.length k2] 25)) := (Grew.refl _).alloc _
  generalize (w.alloc (.cells #[.int .i64 f.tos, .int .i64 f.id, .int .i64 f.fl, .int .i64 f.off, .int .i64 f.ttl, .int .i64 f.pr, .int .u32 f.si, .int .u32 f.di, .slice p1 f.o.length k1, .slice p2 f.x.length k2] 25)) = w0 at *
  generalize hlB : w.heap.size = B at *
  have y8 := hB.cell 8
  go_wp2_with fail
  go_ret
  exact ⟨by first | rfl | (rw [e5]), g0⟩
/-- How many bytes a packet has. -/
def szN (p : PK) : Nat := hdN p + p.x.length
theorem sizeOf_c {f : PK} {p1 : Option Addr} {k1 : Nat} {p2 : Option Addr} {k2 : Nat} (hl : f.o.length ≤ 140737488355328) (hx : f.x.length ≤ 140737488355328) (w : World) :
    Calls Tryd.prog 29 #[.agg #[.int .i64 f.tos, .int .i64 f.id, .int .i64 f.fl, .int .i64 f.off, .int .i64 f.ttl, .int .i64 f.pr, .int .u32 f.si, .int .u32 f.di, .slice p1 f.o.length k1, .slice p2 f.x.length k2]] w fun e w' => e = .returned (.int .i64 (szN f : Nat)) ∧ Grew w w' := by
  have e5 : IntKind.i64.wrap ((hdN f : Int) + (f.x.length : Int)) = (szN f : Int) := by unfold szN hdN; rw [IntWalk.i64_in _ (by omega)]; omega
  have E5 := Lib.hid e5
  clear e5
  go_enter Tryd.func29, Tryd.ntmps29
  go_upto_region 1 with fail
  have hB : Blk (w.alloc (.cells #[.int .i64 f.tos, .int .i64 f.id, .int .i64 f.fl, .int .i64 f.off, .int .i64 f.ttl, .int .i64 f.pr, .int .u32 f.si, .int .u32 f.di, .slice p1 f.o.length k1, .slice p2 f.x.length k2] 25)) w.heap.size #[.int .i64 f.tos, .int .i64 f.id, .int .i64 f.fl, .int .i64 f.off, .int .i64 f.ttl, .int .i64 f.pr, .int .u32 f.si, .int .u32 f.di, .slice p1 f.o.length k1, .slice p2 f.x.length k2] 25 := Blk.new _ _ _ _ rfl
  have g0 : Grew w (w.alloc (.cells #[.int .i64 f.tos, .int .i64 f.id, .int .i64 f.fl, .int .i64 f.off, .int .i64 f.ttl, .int .i64 f.pr, .int .u32 f.si, .int .u32 f.di, .slice p1 f.o.length k1, .slice p2 f.x.length k2] 25)) := (Grew.refl _).alloc _
  generalize (w.alloc (.cells #[.int .i64 f.tos, .int .i64 f.id, .int .i64 f.fl, .int .i64 f.off, .int .i64 f.ttl, .int .i64 f.pr, .int .u32 f.si, .int .u32 f.di, .slice p1 f.o.length k1, .slice p2 f.x.length k2] 25)) = w0 at *
  generalize hlB : w.heap.size = B at *
  have hst := (Grew.refl w0).drew1
  refine wp_region_held_drew (S := fun w' => Grew w0 w') (by kernel_rfl) (by exact hst) (fun hHeld => ?_)
  replace hHeld : Grew w0 w0.drew := hHeld
  generalize w0.drew = wq1 at *
  refine wpAnyH_take (i := 0) (v := ?_) rfl (by kernel_rfl) (by kernel_rfl) (by kernel_rfl) (fun _ _ _ h => h) (Or.inl ⟨by rfl, ?_⟩) hHeld ?_
  rotate_left
  · intro wq hSw
    replace hSw : Grew w0 wq := hSw
    have y0 := (hB.grew hSw).cell 0
    have y1 := (hB.grew hSw).cell 1
    have y2 := (hB.grew hSw).cell 2
    have y3 := (hB.grew hSw).cell 3
    have y4 := (hB.grew hSw).cell 4
    have y5 := (hB.grew hSw).cell 5
    have y6 := (hB.grew hSw).cell 6
    have y7 := (hB.grew hSw).cell 7
    have y8 := (hB.grew hSw).cell 8
    have y9 := (hB.grew hSw).cell 9
    go_simp
    try with_reducible rfl
  try simp only [List.getElem_toArray, List.getElem_cons_succ, List.getElem_cons_zero, Act.put, List.setIfInBounds_toArray, List.set_cons_zero, List.set_cons_succ]
  refine wpAnyH_take (i := 2) (v := ?_) rfl (by kernel_rfl) (by kernel_rfl) (by kernel_rfl) (fun _ _ _ h => h) (Or.inl ⟨by rfl, ?_⟩) hHeld ?_
  rotate_left
  · intro wq hSw
    replace hSw : Grew w0 wq := hSw
    go_simp
    try with_reducible rfl
  try simp only [List.getElem_toArray, List.getElem_cons_succ, List.getElem_cons_zero, Act.put, List.setIfInBounds_toArray, List.set_cons_zero, List.set_cons_succ]
  refine wpAnyH_take (i := 3) (v := ?_) rfl (by kernel_rfl) (by kernel_rfl) (by kernel_rfl) (fun _ _ _ h => h) (Or.inl ⟨by rfl, ?_⟩) hHeld ?_
  rotate_left
  · intro wq hSw
    replace hSw : Grew w0 wq := hSw
    have y9 := (hB.grew hSw).cell 9
    go_simp
    try with_reducible rfl
  try simp only [List.getElem_toArray, List.getElem_cons_succ, List.getElem_cons_zero, Act.put, List.setIfInBounds_toArray, List.set_cons_zero, List.set_cons_succ]
  refine wpAnyH_take (i := 4) (v := ?_) rfl (by kernel_rfl) (by kernel_rfl) (by kernel_rfl) (fun _ _ _ h => h) (Or.inl ⟨by rfl, ?_⟩) hHeld ?_
  rotate_left
  · intro wq hSw
    replace hSw : Grew w0 wq := hSw
    go_simp
    try with_reducible rfl
  try simp only [List.getElem_toArray, List.getElem_cons_succ, List.getElem_cons_zero, Act.put, List.setIfInBounds_toArray, List.set_cons_zero, List.set_cons_succ]
  refine wpAnyH_ready (rs := [1]) (by kernel_rfl) (by simp) ?_
  refine AllReadyH.cons rfl (fun K hK => ?_) AllReadyH.nil
  go_simp
  refine (headSize_c hl wq1).mono ?_
  rintro e wk2 ⟨rfl, gk2⟩
  refine hK.out _ _ (hHeld.trans gk2) (fun hHeld => ?_)
  clear hK K
  try simp only [List.getElem_toArray, List.getElem_cons_succ, List.getElem_cons_zero, Act.put, List.setIfInBounds_toArray, List.set_cons_zero, List.set_cons_succ]
  refine wpAnyH_take (i := 5) (v := ?_) rfl (by kernel_rfl) (by kernel_rfl) (by kernel_rfl) (fun _ _ _ h => h) (Or.inl ⟨by rfl, ?_⟩) hHeld ?_
  rotate_left
  · intro wq hSw
    replace hSw : Grew w0 wq := hSw
    have ew := E5.out
    go_simp
    try with_reducible rfl
  try simp only [List.getElem_toArray, List.getElem_cons_succ, List.getElem_cons_zero, Act.put, List.setIfInBounds_toArray, List.set_cons_zero, List.set_cons_succ]
  refine wpAnyH_take (i := 6) (v := ?_) rfl (by kernel_rfl) (by kernel_rfl) (by kernel_rfl) (fun _ _ _ h => h) (Or.inl ⟨by rfl, ?_⟩) hHeld ?_
  rotate_left
  · intro wq hSw
    replace hSw : Grew w0 wq := hSw
    go_simp
    try with_reducible rfl
  try simp only [List.getElem_toArray, List.getElem_cons_succ, List.getElem_cons_zero, Act.put, List.setIfInBounds_toArray, List.set_cons_zero, List.set_cons_succ]
  refine wpAnyH_done (by kernel_rfl) ?_ _
  try simp only [List.getElem_toArray, List.getElem_cons_succ, List.getElem_cons_zero, Act.put, List.setIfInBounds_toArray, List.set_cons_zero, List.set_cons_succ]
  go_wp2_with fail
  go_ret
  exact ⟨by first | rfl | (exact ret_i64 E5.out), g0.trans hHeld⟩
theorem units_c (n : Int) (h0 : 0 ≤ n) (h1 : n ≤ 140737488355328) (w : World) :
    Calls Tryd.prog 32 #[.int .i64 n] w fun e w' => e = .returned (.int .i64 ((n + 7) / 8)) ∧ w' = w := by
  have e1 : wrap64 (n + 8) = n + 8 := IntWalk.wrap64_in _ (by omega)
  have e2 : wrap64 (n + 8 - 1) = n + 7 := by rw [IntWalk.wrap64_in _ (by omega)]; omega
  have E2 := Lib.hid e2
  clear e2
  go_enter Tryd.func32, Tryd.ntmps32
  go_wp2_with fail
  go_ret
  exact ⟨ret_i64 (by omega), rfl⟩
theorem pairAt_c {v : Value} {xs : List Int} (K : Int) (k k2 : Nat) (hK : K = k) (hk2 : k2 = k + 2) (hk : k2 ≤ xs.length) (w : World) (hb : Buf w v xs) :
    Calls Tryd.prog 47 #[v, .int .i64 K] w fun e w' => e = .returned (.int .i64 (getV (cutL xs k k2) true)) ∧ w' = w := by
  subst hK hk2
  have hlen := hb.len
  obtain ⟨a, c, rfl, _, _⟩ := hb.shape
  obtain ⟨a', c', hcut, x1, hrun, x3, x4⟩ := hb.run_cut (lo := k) (hi := k + 2) (by omega) (by omega)
  clear x1 x3 x4
  unfold maxLen at hlen
  have hl2 : (cutL xs k (k + 2)).length = 2 := by rw [cutL_length (by omega) hk]; omega
  have e1 : wrap64 ((k : Int) + 2) = ((k + 2 : Nat) : Int) := by rw [IntWalk.wrap64_in _ (by omega)]; omega
  have e2 : IntKind.i64.wrap ((k : Int) + 2) = ((k + 2 : Nat) : Int) := by rw [IntWalk.i64_in _ (by omega)]; omega
  have hr : ∀ w', (Instr.sliceAt 23 (.slice a xs.length c) (some (.int .i64 k)) (some (.int .i64 ((k + 2 : Nat) : Int))) none).run Tryd.prog w' = .ok (.slice a' 2 c') w' := fun w' => by have := hrun .i64 .i64 w'; rwa [show k + 2 - k = 2 by omega] at this
  rw [show k + 2 - k = 2 by omega] at hcut
  have hg := getG_lt hcut.ok true hl2 (by omega)
  have hw : IntKind.i64.wrap (getV (cutL xs k (k + 2)) true) = getV (cutL xs k (k + 2)) true := IntWalk.i64_in _ (by omega)
  have HG := Lib.hid (fun w' (g : Grew w w') => get_c true (hcut.grew g).ok (by omega) w' (hcut.grew g).bytes)
  clear hrun hg hl2 hcut hb hk hlen
  generalize getV (cutL xs k (k + 2)) true = z at *
  generalize ((k + 2 : Nat) : Int) = k2 at *
  go_enter Tryd.func47, Tryd.ntmps47
  go_wp2_with fail
  refine (HG.out _ (Grew.refl _)).mono ?_
  rintro e w1 ⟨rfl, h1⟩
  obtain rfl := h1.symm
  go_wp2_with fail
  go_ret
  exact ⟨by first | rfl | rw [hw], rfl⟩
theorem addressAt_c {v : Value} {xs : List Int} (K : Int) (k k2 : Nat) (hK : K = k) (hk2 : k2 = k + 4) (hk : k2 ≤ xs.length) (w : World) (hb : Buf w v xs) :
    Calls Tryd.prog 48 #[v, .int .i64 K] w fun e w' => e = .returned (.int .u32 (getV (cutL xs k k2) true)) ∧ w' = w := by
  subst hK hk2
  have hlen := hb.len
  obtain ⟨a, c, rfl, _, _⟩ := hb.shape
  obtain ⟨a', c', hcut, x1, hrun, x3, x4⟩ := hb.run_cut (lo := k) (hi := k + 4) (by omega) (by omega)
  clear x1 x3 x4
  unfold maxLen at hlen
  have hl2 : (cutL xs k (k + 4)).length = 4 := by rw [cutL_length (by omega) hk]; omega
  have e1 : wrap64 ((k : Int) + 4) = ((k + 4 : Nat) : Int) := by rw [IntWalk.wrap64_in _ (by omega)]; omega
  have e2 : IntKind.i64.wrap ((k : Int) + 4) = ((k + 4 : Nat) : Int) := by rw [IntWalk.i64_in _ (by omega)]; omega
  have hr : ∀ w', (Instr.sliceAt 23 (.slice a xs.length c) (some (.int .i64 k)) (some (.int .i64 ((k + 4 : Nat) : Int))) none).run Tryd.prog w' = .ok (.slice a' 4 c') w' := fun w' => by have := hrun .i64 .i64 w'; rwa [show k + 4 - k = 4 by omega] at this
  rw [show k + 4 - k = 4 by omega] at hcut
  have hg := getG_lt hcut.ok true hl2 (by omega)
  have hw : IntKind.u32.wrap (getV (cutL xs k (k + 4)) true) = getV (cutL xs k (k + 4)) true := IntWalk.u32_in _ (by omega)
  have HG := Lib.hid (fun w' (g : Grew w w') => get_c true (hcut.grew g).ok (by omega) w' (hcut.grew g).bytes)
  clear hrun hg hl2 hcut hb hk hlen
  generalize getV (cutL xs k (k + 4)) true = z at *
  generalize ((k + 4 : Nat) : Int) = k2 at *
  go_enter Tryd.func48, Tryd.ntmps48
  go_wp2_with fail
  refine (HG.out _ (Grew.refl _)).mono ?_
  rintro e w1 ⟨rfl, h1⟩
  obtain rfl := h1.symm
  go_wp2_with fail
  go_ret
  exact ⟨by first | rfl | rw [hw], rfl⟩
theorem headTold_c {v : Value} {xs : List Int} (h0 : 0 < xs.length) (w : World) (hb : Buf w v xs) :
    Calls Tryd.prog 46 #[v] w fun e w' => e = .returned (.int .i64 (hlV xs : Nat)) ∧ w' = w := by
  obtain ⟨a, c, rfl, _, _⟩ := hb.shape
  have hn := hb.lenEq.1
  have hne : xs ≠ [] := by rintro rfl; simp at h0
  obtain ⟨_, _, ea, _, hat⟩ := hb.shape
  simp only [Value.slice.injEq] at ea
  obtain ⟨rfl, hn', rfl⟩ := ea
  clear hn'
  obtain ⟨bk, off, rfl, hat2⟩ := hat hne
  have x0 : w.cell? ⟨bk, off, none⟩ = some (.int .u8 (xs.getD 0 0)) := by simpa using hat2 0 (by omega)
  have hx0 := hb.ok.getD 0
  have hN : ((hlV xs : Nat) : Int) = xs.getD 0 0 % 16 * 4 := by unfold hlV; omega
  have hbit : bits .and .u8 (xs.getD 0 0) 15 = xs.getD 0 0 % 16 := bits_mask .u8 8 (by decide) wraps_u8 4 (by decide) _ (by omega) (by omega)
  generalize xs.getD 0 0 = x at *
  have e2 : wrap64 (x % 16 * 4) = x % 16 * 4 := IntWalk.wrap64_in _ (by omega)
  rw [hN]
  clear hat hat2 hne hn hb hN
  go_enter Tryd.func46, Tryd.ntmps46
  go_wp2_with fail
  go_ret
  exact ⟨by first | rfl | (rw [e2]), rfl⟩
theorem isPacket_0 {f : PK} {p1 : Option Addr} {k1 : Nat} {p2 : Option Addr} {k2 : Nat} (hx : f.x.length ≤ 140737488355328)  (q0 : inV f.tos 255 = false) (w : World) :
    Calls Tryd.prog 18 #[.agg #[.int .i64 f.tos, .int .i64 f.id, .int .i64 f.fl, .int .i64 f.off, .int .i64 f.ttl, .int .i64 f.pr, .int .u32 f.si, .int .u32 f.di, .slice p1 f.o.length k1, .slice p2 f.x.length k2]] w fun e w' => e = .returned (.bool false) ∧ Grew w w' := by
  go_enter Tryd.func18, Tryd.ntmps18
  go_upto_region 1 with fail
  have hB : Blk (w.alloc (.cells #[.int .i64 f.tos, .int .i64 f.id, .int .i64 f.fl, .int .i64 f.off, .int .i64 f.ttl, .int .i64 f.pr, .int .u32 f.si, .int .u32 f.di, .slice p1 f.o.length k1, .slice p2 f.x.length k2] 25)) w.heap.size #[.int .i64 f.tos, .int .i64 f.id, .int .i64 f.fl, .int .i64 f.off, .int .i64 f.ttl, .int .i64 f.pr, .int .u32 f.si, .int .u32 f.di, .slice p1 f.o.length k1, .slice p2 f.x.length k2] 25 := Blk.new _ _ _ _ rfl
  have g0 : Grew w (w.alloc (.cells #[.int .i64 f.tos, .int .i64 f.id, .int .i64 f.fl, .int .i64 f.off, .int .i64 f.ttl, .int .i64 f.pr, .int .u32 f.si, .int .u32 f.di, .slice p1 f.o.length k1, .slice p2 f.x.length k2] 25)) := (Grew.refl _).alloc _
  generalize (w.alloc (.cells #[.int .i64 f.tos, .int .i64 f.id, .int .i64 f.fl, .int .i64 f.off, .int .i64 f.ttl, .int .i64 f.pr, .int .u32 f.si, .int .u32 f.di, .slice p1 f.o.length k1, .slice p2 f.x.length k2] 25)) = w0 at *
  generalize hlB : w.heap.size = B at *
  have y0 := hB.cell 0
  have y1 := hB.cell 1
  have y2 := hB.cell 2
  have y3 := hB.cell 3
  have y4 := hB.cell 4
  have y5 := hB.cell 5
  have y6 := hB.cell 6
  have y7 := hB.cell 7
  have y8 := hB.cell 8
  have y9 := hB.cell 9
  go_wp2_with (first | (go_at_call 37; refine (within_c _ _ _ (by assumption) _).mono ?_; rintro e w2 ⟨rfl, h2⟩; obtain rfl := h2.symm) | (go_at_call 29; refine (sizeOf_c (by simp at q6; omega) hx _).mono ?_; rintro e w2 ⟨rfl, g2⟩))
  go_ret
  exact ⟨rfl, g0⟩
theorem isPacket_1 {f : PK} {p1 : Option Addr} {k1 : Nat} {p2 : Option Addr} {k2 : Nat} (hx : f.x.length ≤ 140737488355328) (q0 : inV f.tos 255 = true) (q1 : inV f.ttl 255 = false) (w : World) :
    Calls Tryd.prog 18 #[.agg #[.int .i64 f.tos, .int .i64 f.id, .int .i64 f.fl, .int .i64 f.off, .int .i64 f.ttl, .int .i64 f.pr, .int .u32 f.si, .int .u32 f.di, .slice p1 f.o.length k1, .slice p2 f.x.length k2]] w fun e w' => e = .returned (.bool false) ∧ Grew w w' := by
  go_enter Tryd.func18, Tryd.ntmps18
  go_upto_region 1 with fail
  have hB : Blk (w.alloc (.cells #[.int .i64 f.tos, .int .i64 f.id, .int .i64 f.fl, .int .i64 f.off, .int .i64 f.ttl, .int .i64 f.pr, .int .u32 f.si, .int .u32 f.di, .slice p1 f.o.length k1, .slice p2 f.x.length k2] 25)) w.heap.size #[.int .i64 f.tos, .int .i64 f.id, .int .i64 f.fl, .int .i64 f.off, .int .i64 f.ttl, .int .i64 f.pr, .int .u32 f.si, .int .u32 f.di, .slice p1 f.o.length k1, .slice p2 f.x.length k2] 25 := Blk.new _ _ _ _ rfl
  have g0 : Grew w (w.alloc (.cells #[.int .i64 f.tos, .int .i64 f.id, .int .i64 f.fl, .int .i64 f.off, .int .i64 f.ttl, .int .i64 f.pr, .int .u32 f.si, .int .u32 f.di, .slice p1 f.o.length k1, .slice p2 f.x.length k2] 25)) := (Grew.refl _).alloc _
  generalize (w.alloc (.cells #[.int .i64 f.tos, .int .i64 f.id, .int .i64 f.fl, .int .i64 f.off, .int .i64 f.ttl, .int .i64 f.pr, .int .u32 f.si, .int .u32 f.di, .slice p1 f.o.length k1, .slice p2 f.x.length k2] 25)) = w0 at *
  generalize hlB : w.heap.size = B at *
  have y0 := hB.cell 0
  have y1 := hB.cell 1
  have y2 := hB.cell 2
  have y3 := hB.cell 3
  have y4 := hB.cell 4
  have y5 := hB.cell 5
  have y6 := hB.cell 6
  have y7 := hB.cell 7
  have y8 := hB.cell 8
  have y9 := hB.cell 9
  go_wp2_with (first | (go_at_call 37; refine (within_c _ _ _ (by assumption) _).mono ?_; rintro e w2 ⟨rfl, h2⟩; obtain rfl := h2.symm) | (go_at_call 29; refine (sizeOf_c (by simp at q6; omega) hx _).mono ?_; rintro e w2 ⟨rfl, g2⟩))
  go_ret
  exact ⟨rfl, g0⟩
theorem isPacket_2 {f : PK} {p1 : Option Addr} {k1 : Nat} {p2 : Option Addr} {k2 : Nat} (hx : f.x.length ≤ 140737488355328) (q0 : inV f.tos 255 = true) (q1 : inV f.ttl 255 = true) (q2 : inV f.pr 255 = false) (w : World) :
    Calls Tryd.prog 18 #[.agg #[.int .i64 f.tos, .int .i64 f.id, .int .i64 f.fl, .int .i64 f.off, .int .i64 f.ttl, .int .i64 f.pr, .int .u32 f.si, .int .u32 f.di, .slice p1 f.o.length k1, .slice p2 f.x.length k2]] w fun e w' => e = .returned (.bool false) ∧ Grew w w' := by
  go_enter Tryd.func18, Tryd.ntmps18
  go_upto_region 1 with fail
  have hB : Blk (w.alloc (.cells #[.int .i64 f.tos, .int .i64 f.id, .int .i64 f.fl, .int .i64 f.off, .int .i64 f.ttl, .int .i64 f.pr, .int .u32 f.si, .int .u32 f.di, .slice p1 f.o.length k1, .slice p2 f.x.length k2] 25)) w.heap.size #[.int .i64 f.tos, .int .i64 f.id, .int .i64 f.fl, .int .i64 f.off, .int .i64 f.ttl, .int .i64 f.pr, .int .u32 f.si, .int .u32 f.di, .slice p1 f.o.length k1, .slice p2 f.x.length k2] 25 := Blk.new _ _ _ _ rfl
  have g0 : Grew w (w.alloc (.cells #[.int .i64 f.tos, .int .i64 f.id, .int .i64 f.fl, .int .i64 f.off, .int .i64 f.ttl, .int .i64 f.pr, .int .u32 f.si, .int .u32 f.di, .slice p1 f.o.length k1, .slice p2 f.x.length k2] 25)) := (Grew.refl _).alloc _
  generalize (w.alloc (.cells #[.int .i64 f.tos, .int .i64 f.id, .int .i64 f.fl, .int .i64 f.off, .int .i64 f.ttl, .int .i64 f.pr, .int .u32 f.si, .int .u32 f.di, .slice p1 f.o.length k1, .slice p2 f.x.length k2] 25)) = w0 at *
  generalize hlB : w.heap.size = B at *
  have y0 := hB.cell 0
  have y1 := hB.cell 1
  have y2 := hB.cell 2
  have y3 := hB.cell 3
  have y4 := hB.cell 4
  have y5 := hB.cell 5
  have y6 := hB.cell 6
  have y7 := hB.cell 7
  have y8 := hB.cell 8
  have y9 := hB.cell 9
  go_wp2_with (first | (go_at_call 37; refine (within_c _ _ _ (by assumption) _).mono ?_; rintro e w2 ⟨rfl, h2⟩; obtain rfl := h2.symm) | (go_at_call 29; refine (sizeOf_c (by simp at q6; omega) hx _).mono ?_; rintro e w2 ⟨rfl, g2⟩))
  go_ret
  exact ⟨rfl, g0⟩
theorem isPacket_3 {f : PK} {p1 : Option Addr} {k1 : Nat} {p2 : Option Addr} {k2 : Nat} (hx : f.x.length ≤ 140737488355328) (q0 : inV f.tos 255 = true) (q1 : inV f.ttl 255 = true) (q2 : inV f.pr 255 = true) (q3 : inV f.id 65535 = false) (w : World) :
    Calls Tryd.prog 18 #[.agg #[.int .i64 f.tos, .int .i64 f.id, .int .i64 f.fl, .int .i64 f.off, .int .i64 f.ttl, .int .i64 f.pr, .int .u32 f.si, .int .u32 f.di, .slice p1 f.o.length k1, .slice p2 f.x.length k2]] w fun e w' => e = .returned (.bool false) ∧ Grew w w' := by
  go_enter Tryd.func18, Tryd.ntmps18
  go_upto_region 1 with fail
  have hB : Blk (w.alloc (.cells #[.int .i64 f.tos, .int .i64 f.id, .int .i64 f.fl, .int .i64 f.off, .int .i64 f.ttl, .int .i64 f.pr, .int .u32 f.si, .int .u32 f.di, .slice p1 f.o.length k1, .slice p2 f.x.length k2] 25)) w.heap.size #[.int .i64 f.tos, .int .i64 f.id, .int .i64 f.fl, .int .i64 f.off, .int .i64 f.ttl, .int .i64 f.pr, .int .u32 f.si, .int .u32 f.di, .slice p1 f.o.length k1, .slice p2 f.x.length k2] 25 := Blk.new _ _ _ _ rfl
  have g0 : Grew w (w.alloc (.cells #[.int .i64 f.tos, .int .i64 f.id, .int .i64 f.fl, .int .i64 f.off, .int .i64 f.ttl, .int .i64 f.pr, .int .u32 f.si, .int .u32 f.di, .slice p1 f.o.length k1, .slice p2 f.x.length k2] 25)) := (Grew.refl _).alloc _
  generalize (w.alloc (.cells #[.int .i64 f.tos, .int .i64 f.id, .int .i64 f.fl, .int .i64 f.off, .int .i64 f.ttl, .int .i64 f.pr, .int .u32 f.si, .int .u32 f.di, .slice p1 f.o.length k1, .slice p2 f.x.length k2] 25)) = w0 at *
  generalize hlB : w.heap.size = B at *
  have y0 := hB.cell 0
  have y1 := hB.cell 1
  have y2 := hB.cell 2
  have y3 := hB.cell 3
  have y4 := hB.cell 4
  have y5 := hB.cell 5
  have y6 := hB.cell 6
  have y7 := hB.cell 7
  have y8 := hB.cell 8
  have y9 := hB.cell 9
  go_wp2_with (first | (go_at_call 37; refine (within_c _ _ _ (by assumption) _).mono ?_; rintro e w2 ⟨rfl, h2⟩; obtain rfl := h2.symm) | (go_at_call 29; refine (sizeOf_c (by simp at q6; omega) hx _).mono ?_; rintro e w2 ⟨rfl, g2⟩))
  go_ret
  exact ⟨rfl, g0⟩
theorem isPacket_4 {f : PK} {p1 : Option Addr} {k1 : Nat} {p2 : Option Addr} {k2 : Nat} (hx : f.x.length ≤ 140737488355328) (q0 : inV f.tos 255 = true) (q1 : inV f.ttl 255 = true) (q2 : inV f.pr 255 = true) (q3 : inV f.id 65535 = true) (q4 : inV f.fl 7 = false) (w : World) :
    Calls Tryd.prog 18 #[.agg #[.int .i64 f.tos, .int .i64 f.id, .int .i64 f.fl, .int .i64 f.off, .int .i64 f.ttl, .int .i64 f.pr, .int .u32 f.si, .int .u32 f.di, .slice p1 f.o.length k1, .slice p2 f.x.length k2]] w fun e w' => e = .returned (.bool false) ∧ Grew w w' := by
  go_enter Tryd.func18, Tryd.ntmps18
  go_upto_region 1 with fail
  have hB : Blk (w.alloc (.cells #[.int .i64 f.tos, .int .i64 f.id, .int .i64 f.fl, .int .i64 f.off, .int .i64 f.ttl, .int .i64 f.pr, .int .u32 f.si, .int .u32 f.di, .slice p1 f.o.length k1, .slice p2 f.x.length k2] 25)) w.heap.size #[.int .i64 f.tos, .int .i64 f.id, .int .i64 f.fl, .int .i64 f.off, .int .i64 f.ttl, .int .i64 f.pr, .int .u32 f.si, .int .u32 f.di, .slice p1 f.o.length k1, .slice p2 f.x.length k2] 25 := Blk.new _ _ _ _ rfl
  have g0 : Grew w (w.alloc (.cells #[.int .i64 f.tos, .int .i64 f.id, .int .i64 f.fl, .int .i64 f.off, .int .i64 f.ttl, .int .i64 f.pr, .int .u32 f.si, .int .u32 f.di, .slice p1 f.o.length k1, .slice p2 f.x.length k2] 25)) := (Grew.refl _).alloc _
  generalize (w.alloc (.cells #[.int .i64 f.tos, .int .i64 f.id, .int .i64 f.fl, .int .i64 f.off, .int .i64 f.ttl, .int .i64 f.pr, .int .u32 f.si, .int .u32 f.di, .slice p1 f.o.length k1, .slice p2 f.x.length k2] 25)) = w0 at *
  generalize hlB : w.heap.size = B at *
  have y0 := hB.cell 0
  have y1 := hB.cell 1
  have y2 := hB.cell 2
  have y3 := hB.cell 3
  have y4 := hB.cell 4
  have y5 := hB.cell 5
  have y6 := hB.cell 6
  have y7 := hB.cell 7
  have y8 := hB.cell 8
  have y9 := hB.cell 9
  go_wp2_with (first | (go_at_call 37; refine (within_c _ _ _ (by assumption) _).mono ?_; rintro e w2 ⟨rfl, h2⟩; obtain rfl := h2.symm) | (go_at_call 29; refine (sizeOf_c (by simp at q6; omega) hx _).mono ?_; rintro e w2 ⟨rfl, g2⟩))
  go_ret
  exact ⟨rfl, g0⟩
theorem isPacket_5 {f : PK} {p1 : Option Addr} {k1 : Nat} {p2 : Option Addr} {k2 : Nat} (hx : f.x.length ≤ 140737488355328) (q0 : inV f.tos 255 = true) (q1 : inV f.ttl 255 = true) (q2 : inV f.pr 255 = true) (q3 : inV f.id 65535 = true) (q4 : inV f.fl 7 = true) (q5 : inV f.off 8191 = false) (w : World) :
    Calls Tryd.prog 18 #[.agg #[.int .i64 f.tos, .int .i64 f.id, .int .i64 f.fl, .int .i64 f.off, .int .i64 f.ttl, .int .i64 f.pr, .int .u32 f.si, .int .u32 f.di, .slice p1 f.o.length k1, .slice p2 f.x.length k2]] w fun e w' => e = .returned (.bool false) ∧ Grew w w' := by
  go_enter Tryd.func18, Tryd.ntmps18
  go_upto_region 1 with fail
  have hB : Blk (w.alloc (.cells #[.int .i64 f.tos, .int .i64 f.id, .int .i64 f.fl, .int .i64 f.off, .int .i64 f.ttl, .int .i64 f.pr, .int .u32 f.si, .int .u32 f.di, .slice p1 f.o.length k1, .slice p2 f.x.length k2] 25)) w.heap.size #[.int .i64 f.tos, .int .i64 f.id, .int .i64 f.fl, .int .i64 f.off, .int .i64 f.ttl, .int .i64 f.pr, .int .u32 f.si, .int .u32 f.di, .slice p1 f.o.length k1, .slice p2 f.x.length k2] 25 := Blk.new _ _ _ _ rfl
  have g0 : Grew w (w.alloc (.cells #[.int .i64 f.tos, .int .i64 f.id, .int .i64 f.fl, .int .i64 f.off, .int .i64 f.ttl, .int .i64 f.pr, .int .u32 f.si, .int .u32 f.di, .slice p1 f.o.length k1, .slice p2 f.x.length k2] 25)) := (Grew.refl _).alloc _
  generalize (w.alloc (.cells #[.int .i64 f.tos, .int .i64 f.id, .int .i64 f.fl, .int .i64 f.off, .int .i64 f.ttl, .int .i64 f.pr, .int .u32 f.si, .int .u32 f.di, .slice p1 f.o.length k1, .slice p2 f.x.length k2] 25)) = w0 at *
  generalize hlB : w.heap.size = B at *
  have y0 := hB.cell 0
  have y1 := hB.cell 1
  have y2 := hB.cell 2
  have y3 := hB.cell 3
  have y4 := hB.cell 4
  have y5 := hB.cell 5
  have y6 := hB.cell 6
  have y7 := hB.cell 7
  have y8 := hB.cell 8
  have y9 := hB.cell 9
  go_wp2_with (first | (go_at_call 37; refine (within_c _ _ _ (by assumption) _).mono ?_; rintro e w2 ⟨rfl, h2⟩; obtain rfl := h2.symm) | (go_at_call 29; refine (sizeOf_c (by simp at q6; omega) hx _).mono ?_; rintro e w2 ⟨rfl, g2⟩))
  go_ret
  exact ⟨rfl, g0⟩
theorem isPacket_6 {f : PK} {p1 : Option Addr} {k1 : Nat} {p2 : Option Addr} {k2 : Nat} (hx : f.x.length ≤ 140737488355328) (q0 : inV f.tos 255 = true) (q1 : inV f.ttl 255 = true) (q2 : inV f.pr 255 = true) (q3 : inV f.id 65535 = true) (q4 : inV f.fl 7 = true) (q5 : inV f.off 8191 = true) (q6 : decide ((f.o.length : Int) ≤ 40) = false) (w : World) :
    Calls Tryd.prog 18 #[.agg #[.int .i64 f.tos, .int .i64 f.id, .int .i64 f.fl, .int .i64 f.off, .int .i64 f.ttl, .int .i64 f.pr, .int .u32 f.si, .int .u32 f.di, .slice p1 f.o.length k1, .slice p2 f.x.length k2]] w fun e w' => e = .returned (.bool false) ∧ Grew w w' := by
  go_enter Tryd.func18, Tryd.ntmps18
  go_upto_region 1 with fail
  have hB : Blk (w.alloc (.cells #[.int .i64 f.tos, .int .i64 f.id, .int .i64 f.fl, .int .i64 f.off, .int .i64 f.ttl, .int .i64 f.pr, .int .u32 f.si, .int .u32 f.di, .slice p1 f.o.length k1, .slice p2 f.x.length k2] 25)) w.heap.size #[.int .i64 f.tos, .int .i64 f.id, .int .i64 f.fl, .int .i64 f.off, .int .i64 f.ttl, .int .i64 f.pr, .int .u32 f.si, .int .u32 f.di, .slice p1 f.o.length k1, .slice p2 f.x.length k2] 25 := Blk.new _ _ _ _ rfl
  have g0 : Grew w (w.alloc (.cells #[.int .i64 f.tos, .int .i64 f.id, .int .i64 f.fl, .int .i64 f.off, .int .i64 f.ttl, .int .i64 f.pr, .int .u32 f.si, .int .u32 f.di, .slice p1 f.o.length k1, .slice p2 f.x.length k2] 25)) := (Grew.refl _).alloc _
  generalize (w.alloc (.cells #[.int .i64 f.tos, .int .i64 f.id, .int .i64 f.fl, .int .i64 f.off, .int .i64 f.ttl, .int .i64 f.pr, .int .u32 f.si, .int .u32 f.di, .slice p1 f.o.length k1, .slice p2 f.x.length k2] 25)) = w0 at *
  generalize hlB : w.heap.size = B at *
  have y0 := hB.cell 0
  have y1 := hB.cell 1
  have y2 := hB.cell 2
  have y3 := hB.cell 3
  have y4 := hB.cell 4
  have y5 := hB.cell 5
  have y6 := hB.cell 6
  have y7 := hB.cell 7
  have y8 := hB.cell 8
  have y9 := hB.cell 9
  go_wp2_with (first | (go_at_call 37; refine (within_c _ _ _ (by assumption) _).mono ?_; rintro e w2 ⟨rfl, h2⟩; obtain rfl := h2.symm) | (go_at_call 29; refine (sizeOf_c (by simp at q6; omega) hx _).mono ?_; rintro e w2 ⟨rfl, g2⟩))
  go_ret
  exact ⟨rfl, g0⟩
theorem isPacket_7 {f : PK} {p1 : Option Addr} {k1 : Nat} {p2 : Option Addr} {k2 : Nat} (hx : f.x.length ≤ 140737488355328) (q0 : inV f.tos 255 = true) (q1 : inV f.ttl 255 = true) (q2 : inV f.pr 255 = true) (q3 : inV f.id 65535 = true) (q4 : inV f.fl 7 = true) (q5 : inV f.off 8191 = true) (q6 : decide ((f.o.length : Int) ≤ 40) = true) (q7 : ((f.o.length : Int) % 4 == 0) = false) (w : World) :
    Calls Tryd.prog 18 #[.agg #[.int .i64 f.tos, .int .i64 f.id, .int .i64 f.fl, .int .i64 f.off, .int .i64 f.ttl, .int .i64 f.pr, .int .u32 f.si, .int .u32 f.di, .slice p1 f.o.length k1, .slice p2 f.x.length k2]] w fun e w' => e = .returned (.bool false) ∧ Grew w w' := by
  have e4 : wrap64 (((f.o.length : Nat) : Int).tmod 4) = (f.o.length : Int) % 4 := by rw [Int.tmod_eq_emod_of_nonneg (by omega)]; exact IntWalk.wrap64_in _ (by omega)
  go_enter Tryd.func18, Tryd.ntmps18
  go_upto_region 1 with fail
  have hB : Blk (w.alloc (.cells #[.int .i64 f.tos, .int .i64 f.id, .int .i64 f.fl, .int .i64 f.off, .int .i64 f.ttl, .int .i64 f.pr, .int .u32 f.si, .int .u32 f.di, .slice p1 f.o.length k1, .slice p2 f.x.length k2] 25)) w.heap.size #[.int .i64 f.tos, .int .i64 f.id, .int .i64 f.fl, .int .i64 f.off, .int .i64 f.ttl, .int .i64 f.pr, .int .u32 f.si, .int .u32 f.di, .slice p1 f.o.length k1, .slice p2 f.x.length k2] 25 := Blk.new _ _ _ _ rfl
  have g0 : Grew w (w.alloc (.cells #[.int .i64 f.tos, .int .i64 f.id, .int .i64 f.fl, .int .i64 f.off, .int .i64 f.ttl, .int .i64 f.pr, .int .u32 f.si, .int .u32 f.di, .slice p1 f.o.length k1, .slice p2 f.x.length k2] 25)) := (Grew.refl _).alloc _
  generalize (w.alloc (.cells #[.int .i64 f.tos, .int .i64 f.id, .int .i64 f.fl, .int .i64 f.off, .int .i64 f.ttl, .int .i64 f.pr, .int .u32 f.si, .int .u32 f.di, .slice p1 f.o.length k1, .slice p2 f.x.length k2] 25)) = w0 at *
  generalize hlB : w.heap.size = B at *
  have y0 := hB.cell 0
  have y1 := hB.cell 1
  have y2 := hB.cell 2
  have y3 := hB.cell 3
  have y4 := hB.cell 4
  have y5 := hB.cell 5
  have y6 := hB.cell 6
  have y7 := hB.cell 7
  have y8 := hB.cell 8
  have y9 := hB.cell 9
  go_wp2_with (first | (go_at_call 37; refine (within_c _ _ _ (by assumption) _).mono ?_; rintro e w2 ⟨rfl, h2⟩; obtain rfl := h2.symm) | (go_at_call 29; refine (sizeOf_c (by simp at q6; omega) hx _).mono ?_; rintro e w2 ⟨rfl, g2⟩))
  go_ret
  exact ⟨rfl, g0⟩
theorem isPacket_8 {f : PK} {p1 : Option Addr} {k1 : Nat} {p2 : Option Addr} {k2 : Nat} (hx : f.x.length ≤ 140737488355328) (q0 : inV f.tos 255 = true) (q1 : inV f.ttl 255 = true) (q2 : inV f.pr 255 = true) (q3 : inV f.id 65535 = true) (q4 : inV f.fl 7 = true) (q5 : inV f.off 8191 = true) (q6 : decide ((f.o.length : Int) ≤ 40) = true) (q7 : ((f.o.length : Int) % 4 == 0) = true) (q8 : decide ((szN f : Int) ≤ 65535) = false) (w : World) :
    Calls Tryd.prog 18 #[.agg #[.int .i64 f.tos, .int .i64 f.id, .int .i64 f.fl, .int .i64 f.off, .int .i64 f.ttl, .int .i64 f.pr, .int .u32 f.si, .int .u32 f.di, .slice p1 f.o.length k1, .slice p2 f.x.length k2]] w fun e w' => e = .returned (.bool false) ∧ Grew w w' := by
  have e4 : wrap64 (((f.o.length : Nat) : Int).tmod 4) = (f.o.length : Int) % 4 := by rw [Int.tmod_eq_emod_of_nonneg (by omega)]; exact IntWalk.wrap64_in _ (by omega)
  go_enter Tryd.func18, Tryd.ntmps18
  go_upto_region 1 with fail
  have hB : Blk (w.alloc (.cells #[.int .i64 f.tos, .int .i64 f.id, .int .i64 f.fl, .int .i64 f.off, .int .i64 f.ttl, .int .i64 f.pr, .int .u32 f.si, .int .u32 f.di, .slice p1 f.o.length k1, .slice p2 f.x.length k2] 25)) w.heap.size #[.int .i64 f.tos, .int .i64 f.id, .int .i64 f.fl, .int .i64 f.off, .int .i64 f.ttl, .int .i64 f.pr, .int .u32 f.si, .int .u32 f.di, .slice p1 f.o.length k1, .slice p2 f.x.length k2] 25 := Blk.new _ _ _ _ rfl
  have g0 : Grew w (w.alloc (.cells #[.int .i64 f.tos, .int .i64 f.id, .int .i64 f.fl, .int .i64 f.off, .int .i64 f.ttl, .int .i64 f.pr, .int .u32 f.si, .int .u32 f.di, .slice p1 f.o.length k1, .slice p2 f.x.length k2] 25)) := (Grew.refl _).alloc _
  generalize (w.alloc (.cells #[.int .i64 f.tos, .int .i64 f.id, .int .i64 f.fl, .int .i64 f.off, .int .i64 f.ttl, .int .i64 f.pr, .int .u32 f.si, .int .u32 f.di, .slice p1 f.o.length k1, .slice p2 f.x.length k2] 25)) = w0 at *
  generalize hlB : w.heap.size = B at *
  have y0 := hB.cell 0
  have y1 := hB.cell 1
  have y2 := hB.cell 2
  have y3 := hB.cell 3
  have y4 := hB.cell 4
  have y5 := hB.cell 5
  have y6 := hB.cell 6
  have y7 := hB.cell 7
  have y8 := hB.cell 8
  have y9 := hB.cell 9
  go_wp2_with (first | (go_at_call 37; refine (within_c _ _ _ (by assumption) _).mono ?_; rintro e w2 ⟨rfl, h2⟩; obtain rfl := h2.symm) | (go_at_call 29; refine (sizeOf_c (by simp at q6; omega) hx _).mono ?_; rintro e w2 ⟨rfl, g2⟩))
  go_ret
  exact ⟨rfl, g0.trans g2⟩
theorem isPacket_9 {f : PK} {p1 : Option Addr} {k1 : Nat} {p2 : Option Addr} {k2 : Nat} (hx : f.x.length ≤ 140737488355328) (q0 : inV f.tos 255 = true) (q1 : inV f.ttl 255 = true) (q2 : inV f.pr 255 = true) (q3 : inV f.id 65535 = true) (q4 : inV f.fl 7 = true) (q5 : inV f.off 8191 = true) (q6 : decide ((f.o.length : Int) ≤ 40) = true) (q7 : ((f.o.length : Int) % 4 == 0) = true) (q8 : decide ((szN f : Int) ≤ 65535) = true) (w : World) :
    Calls Tryd.prog 18 #[.agg #[.int .i64 f.tos, .int .i64 f.id, .int .i64 f.fl, .int .i64 f.off, .int .i64 f.ttl, .int .i64 f.pr, .int .u32 f.si, .int .u32 f.di, .slice p1 f.o.length k1, .slice p2 f.x.length k2]] w fun e w' => e = .returned (.bool true) ∧ Grew w w' := by
  have e4 : wrap64 (((f.o.length : Nat) : Int).tmod 4) = (f.o.length : Int) % 4 := by rw [Int.tmod_eq_emod_of_nonneg (by omega)]; exact IntWalk.wrap64_in _ (by omega)
  go_enter Tryd.func18, Tryd.ntmps18
  go_upto_region 1 with fail
  have hB : Blk (w.alloc (.cells #[.int .i64 f.tos, .int .i64 f.id, .int .i64 f.fl, .int .i64 f.off, .int .i64 f.ttl, .int .i64 f.pr, .int .u32 f.si, .int .u32 f.di, .slice p1 f.o.length k1, .slice p2 f.x.length k2] 25)) w.heap.size #[.int .i64 f.tos, .int .i64 f.id, .int .i64 f.fl, .int .i64 f.off, .int .i64 f.ttl, .int .i64 f.pr, .int .u32 f.si, .int .u32 f.di, .slice p1 f.o.length k1, .slice p2 f.x.length k2] 25 := Blk.new _ _ _ _ rfl
  have g0 : Grew w (w.alloc (.cells #[.int .i64 f.tos, .int .i64 f.id, .int .i64 f.fl, .int .i64 f.off, .int .i64 f.ttl, .int .i64 f.pr, .int .u32 f.si, .int .u32 f.di, .slice p1 f.o.length k1, .slice p2 f.x.length k2] 25)) := (Grew.refl _).alloc _
  generalize (w.alloc (.cells #[.int .i64 f.tos, .int .i64 f.id, .int .i64 f.fl, .int .i64 f.off, .int .i64 f.ttl, .int .i64 f.pr, .int .u32 f.si, .int .u32 f.di, .slice p1 f.o.length k1, .slice p2 f.x.length k2] 25)) = w0 at *
  generalize hlB : w.heap.size = B at *
  have y0 := hB.cell 0
  have y1 := hB.cell 1
  have y2 := hB.cell 2
  have y3 := hB.cell 3
  have y4 := hB.cell 4
  have y5 := hB.cell 5
  have y6 := hB.cell 6
  have y7 := hB.cell 7
  have y8 := hB.cell 8
  have y9 := hB.cell 9
  go_wp2_with (first | (go_at_call 37; refine (within_c _ _ _ (by assumption) _).mono ?_; rintro e w2 ⟨rfl, h2⟩; obtain rfl := h2.symm) | (go_at_call 29; refine (sizeOf_c (by simp at q6; omega) hx _).mono ?_; rintro e w2 ⟨rfl, g2⟩))
  go_ret
  exact ⟨rfl, g0.trans g2⟩
theorem isPacket_c {v : Value} {f : PK} {w : World} (hx : f.x.length ≤ 140737488355328) (hv : Pk w v f) :
    Calls Tryd.prog 18 #[v] w fun e w' => e = .returned (.bool (okP f)) ∧ Grew w w' := by
  obtain ⟨p1, k1, p2, k2, rfl, b1, b2⟩ := hv.shape
  cases q0 : inV f.tos 255
  · rw [show okP f = false by unfold okP; rw [q0]; simp]; exact isPacket_0 hx q0 w
  · skip
    cases q1 : inV f.ttl 255
    · rw [show okP f = false by unfold okP; rw [q1]; simp]; exact isPacket_1 hx q0 q1 w
    · skip
      cases q2 : inV f.pr 255
      · rw [show okP f = false by unfold okP; rw [q2]; simp]; exact isPacket_2 hx q0 q1 q2 w
      · skip
        cases q3 : inV f.id 65535
        · rw [show okP f = false by unfold okP; rw [q3]; simp]; exact isPacket_3 hx q0 q1 q2 q3 w
        · skip
          cases q4 : inV f.fl 7
          · rw [show okP f = false by unfold okP; rw [q4]; simp]; exact isPacket_4 hx q0 q1 q2 q3 q4 w
          · skip
            cases q5 : inV f.off 8191
            · rw [show okP f = false by unfold okP; rw [q5]; simp]; exact isPacket_5 hx q0 q1 q2 q3 q4 q5 w
            · skip
              cases q6 : decide ((f.o.length : Int) ≤ 40)
              · rw [show okP f = false by unfold okP; simp at q6; rw [show decide (f.o.length ≤ 40) = false from decide_eq_false (by omega)]; simp]; exact isPacket_6 hx q0 q1 q2 q3 q4 q5 q6 w
              · skip
                cases q7 : ((f.o.length : Int) % 4 == 0)
                · rw [show okP f = false by unfold okP; simp at q7; rw [show decide (f.o.length % 4 = 0) = false from decide_eq_false (by omega)]; simp]; exact isPacket_7 hx q0 q1 q2 q3 q4 q5 q6 q7 w
                · skip
                  cases q8 : decide ((szN f : Int) ≤ 65535)
                  · rw [show okP f = false by unfold okP; simp at q8; unfold szN hdN at q8; rw [show decide (f.x.length + f.o.length ≤ 65515) = false from decide_eq_false (by omega)]; simp]; exact isPacket_8 hx q0 q1 q2 q3 q4 q5 q6 q7 q8 w
                  · skip
                    rw [show okP f = true by unfold okP; rw [q0, q1, q2, q3, q4, q5]; simp at q6 q7 q8; unfold szN hdN at q8; simp; omega]
                    exact isPacket_9 hx q0 q1 q2 q3 q4 q5 q6 q7 q8 w
end Go.Proofs.YtalbdeifkbfnbaaDoor
