/-
  Contracts of package decode: fill.
-/
import Derived.Test.YtgekmhcekkmdhaaDecP
import Derived.Test.YtgekmhcekkmdhaaTail
set_option linter.unusedVariables false
set_option linter.unusedSimpArgs false
namespace Go.Proofs.Ytgekmhcekkmdhaa
open Go.RowKit

/-- A block, whole. -/
def Blk (w : World) (b : Nat) (cs : Array Value) (T : TypeId) : Prop := w.heap[b]? = some (.cells cs T (0, 0))
theorem Blk.lt {w : World} {b : Nat} {cs : Array Value} {T : TypeId} (h : Blk w b cs T) : b < w.heap.size := by
  rcases Nat.lt_or_ge b w.heap.size with h' | h'
  · exact h'
  · unfold Blk at h; simp [Array.getElem?_eq_none h'] at h
theorem Blk.cell {w : World} {b : Nat} {cs : Array Value} {T : TypeId} (h : Blk w b cs T) (o : Nat) : w.cell? ⟨b, o, none⟩ = cs[o]? := by
  unfold Blk at h
  simp [World.cell?, h]
theorem Blk.free {w : World} {b : Nat} {cs : Array Value} {T : TypeId} (h : Blk w b cs T) (o : Nat) : w.frozen? ⟨b, o, none⟩ = false := by
  unfold Blk at h
  simp [World.frozen?, h]
theorem Blk.new (w : World) (cs : Array Value) (T : TypeId) (b : Nat) (hb : b = w.heap.size) : Blk (w.alloc (.cells cs T)) b cs T := last_block _ _ _ hb
theorem Blk.alloc {w : World} {b : Nat} {cs : Array Value} {T : TypeId} (h : Blk w b cs T) (o : Obj) : Blk (w.alloc o) b cs T := by
  have := h.lt
  unfold Blk at *
  rw [← h]
  show (w.heap.push o)[b]? = _
  rw [Array.getElem?_push]
  rw [if_neg (by omega)]
theorem Blk.drewN {w : World} {b : Nat} {cs : Array Value} {T : TypeId} (h : Blk w b cs T) (n : Nat) : Blk (w.drewN n) b cs T := h
theorem Blk.drew {w : World} {b : Nat} {cs : Array Value} {T : TypeId} (h : Blk w b cs T) : Blk w.drew b cs T := h
theorem Blk.other {w : World} {b c o : Nat} {cs : Array Value} {T : TypeId} (h : Blk w b cs T) (hc : b ≠ c) (v : Value) : Blk (w.setCell ⟨c, o, none⟩ v) b cs T := by
  unfold Blk at *
  rw [← h]
  exact Below.heap_setCell w ⟨c, o, none⟩ v b hc
theorem Blk.set {w : World} {b o : Nat} {cs : Array Value} {T : TypeId} (h : Blk w b cs T) (v : Value) : Blk (w.setCell ⟨b, o, none⟩ v) b (cs.setIfInBounds o v) T := by
  have hlt := h.lt
  unfold Blk at *
  have h' : w.heap[b] = .cells cs T (0, 0) := by simpa [Array.getElem?_eq_getElem hlt] using h
  show (w.heap.modify b _)[b]? = _
  rw [Array.getElem?_eq_getElem (by simpa using hlt), Array.getElem_modify_self, h']
  rfl
theorem Blk.grew {w w' : World} {b : Nat} {cs : Array Value} {T : TypeId} (h : Blk w b cs T) (g : Grew w w') : Blk w' b cs T := by
  have hlt := h.lt
  unfold Blk at *
  rw [Below.block g b hlt]
  exact h

set_option maxHeartbeats 1000000 in
theorem fill_tff (rs : List Run) (hok : rs.all Run.ok = true) (wide c f : Int) (d : Bool) (x : Nat) (hx : x < 4294967296) (p : Nat) (b : Nat) (w : World)
    (hp : p < w.heap.size) (hpc : w.cell? ⟨p, 0, none⟩ = some (.int .u32 (x : Nat)))
    (hb : b < w.heap.size) (hlen : rs.length < 100) (hcell : ∀ k, k < rs.length →
    w.cell? ⟨b, k * 3, none⟩ = some (.int .i64 (rs.getD k default).hi) ∧ w.cell? ⟨b, k * 3 + 1, none⟩ = some (.int .i64 (rs.getD k default).lo) ∧ w.cell? ⟨b, k * 3 + 2, none⟩ = some (.int .i64 (rs.getD k default).pl)) :
    Calls Try.prog 27 #[.agg #[.bool true, .bool false, .bool false, .slice (some ⟨b, 0, none⟩) rs.length rs.length, .int .i64 wide], .agg #[.int .i64 c, .int .i64 f, .bool d, .int .i64 0, .int .i64 0, .int .i64 0, .int .u64 0], partV p] w
      fun e w' => e = .returned (.agg #[.int .i64 c, .int .i64 f, .bool d, .int .i64 (fN x 11 7 : Nat), .int .i64 0, .int .i64 0, .int .u64 (sextV (orK x rs rs.length : Nat) wide)]) ∧ Grew w w' := by
  have HC := Lib.hid hcell
  clear hcell
  obtain ⟨n, hn⟩ : ∃ n, n = rs.length := ⟨_, rfl⟩
  rw [← hn] at hlen ⊢
  have HN := Lib.hid hn
  clear hn
  have l0 := fN_lt x 11 7 32 (by decide)
  have hp1 : p < w.heap.size + 1 := by omega
  have hp2 : p < w.heap.size + 1 + 1 := by omega
  have hp3 : ¬ p = w.heap.size + 1 := by omega
  go_enter Try.func27, Try.ntmps27
  go_wp2_with fail
  refine (part_d x hx 11 7 (by decide) (by decide) (by decide) p _ (by go_simp)).mono ?_
  rintro e w1 ⟨rfl, n1, rfl⟩
  go_wp2_with fail
  go_loopw [30] (fun i wr => ∃ k : Nat, k ≤ n ∧ i = .int .i64 k ∧ Grew w wr ∧ Blk wr w.heap.size #[.bool true, .bool false, .bool false, .slice (some ⟨b, 0, none⟩) n n, .int .i64 wide] 49 ∧
      Blk wr (w.heap.size + 1) #[.int .i64 c, .int .i64 f, .bool d, .int .i64 (fN x 11 7 : Nat), .int .i64 0, .int .i64 0, .int .u64 (orK x rs k : Nat)] 26 ∧
      Blk wr (w.heap.size + 1 + 1) #[.int .i64 0, .int .i64 0, .bool false, .int .i64 0, .int .i64 0, .int .i64 0, .int .u64 0] 26) (fun i _ => n - (intOf i).toNat)
  case atStart =>
    have hA := Blk.new w #[.bool true, .bool false, .bool false, .slice (some ⟨b, 0, none⟩) n n, .int .i64 wide] 49 w.heap.size rfl
    have hB := Blk.new (w.alloc (.cells #[.bool true, .bool false, .bool false, .slice (some ⟨b, 0, none⟩) n n, .int .i64 wide] 49)) #[.int .i64 c, .int .i64 f, .bool d, .int .i64 0, .int .i64 0, .int .i64 0, .int .u64 0] 26 (w.heap.size + 1) (by simp)
    refine ⟨0, Nat.zero_le _, rfl, ?_, ?_, ?_, ?_⟩
    · repeat (first | with_reducible exact Grew.refl _ | with_reducible refine Grew.alloc ?_ _ | with_reducible refine Grew.drewN ?_ _ | with_reducible refine Grew.setCell ?_ (by omega) _)
    · exact ((((hA.alloc _).alloc _).drewN _).other (by omega) _)
    · exact (((hB.alloc _).drewN _).set _)
    · exact (((Blk.new _ _ _ _ (by simp)).drewN _).other (by omega) _)
  case round =>
    obtain ⟨k, hk, rfl, hg, kA, kB, kC⟩ := hrel
    by_cases hlt : k < n
    · have hN := HN.out
      obtain ⟨c1, c2, c3⟩ := HC.out k (by omega)
      have g0 := gcell hg
      have e1 : wr.cell? ⟨b, k * 3, none⟩ = some (.int .i64 (rs.getD k default).hi) := by rw [g0.1 _ _ hb]; exact c1
      have e2 : wr.cell? ⟨b, k * 3 + 1, none⟩ = some (.int .i64 (rs.getD k default).lo) := by rw [g0.1 _ _ hb]; exact c2
      have e3 : wr.cell? ⟨b, k * 3 + 2, none⟩ = some (.int .i64 (rs.getD k default).pl) := by rw [g0.1 _ _ hb]; exact c3
      have e4 : wr.cell? ⟨w.heap.size + 1, 6, none⟩ = some (.int .u64 (orK x rs k : Nat)) := kB.cell 6
      have e5 : wr.frozen? ⟨w.heap.size + 1, 6, none⟩ = false := kB.free 6
      have e6 : wr.cell? ⟨p, 0, none⟩ = some (.int .u32 (x : Nat)) := by rw [g0.1 _ _ hp]; exact hpc
      have hsz := kC.lt
      have hs1 : w.heap.size + 1 < wr.heap.size := by omega
      have hs2 : ¬ w.heap.size + 1 = wr.heap.size := by omega
      have hs3 : p < wr.heap.size := by omega
      have hs4 : ¬ p = wr.heap.size := by omega
      obtain ⟨o1, o2, o3, o4, o5⟩ := run_at hok (k := k) (by omega)
      have hstep : orK x rs (k + 1) = orK x rs k ||| fN x (rs.getD k default).hi (rs.getD k default).lo * 2 ^ (rs.getD k default).pl.toNat := rfl
      have hkl := orK_lt x rs hok k (by omega)
      have hbl := run_lt x _ _ _ o1 o2 o3 o4 o5
      have hor := or64 _ _ (Nat.lt_of_lt_of_le hkl (by decide)) (Nat.lt_of_lt_of_le hbl (by decide))
      have hw : IntKind.u64.wrap ((fN x (rs.getD k default).hi (rs.getD k default).lo : Int) * 2 ^ (rs.getD k default).pl.toNat) = ((fN x (rs.getD k default).hi (rs.getD k default).lo * 2 ^ (rs.getD k default).pl.toNat : Nat) : Int) := wrap_cast _ _ (Nat.lt_of_lt_of_le hbl (by decide))
      rw [← hstep] at hor
      clear hstep
      generalize hr : rs.getD k default = r at *
      have q2' : r.hi ≤ 63 := by omega
      have OR := Lib.hid hor
      have WR := Lib.hid hw
      have KA := Lib.hid kA
      have KB := Lib.hid kB
      have KC := Lib.hid kC
      clear c1 c2 c3 g0 hN hor hw hr hbl hkl kA kB kC
      go_wp2_with fail
      have hw := WR.out
      have hs5 : ¬ wr.heap.size = w.heap.size + 1 := by omega
      refine region_quiet_tail 13 (by kernel_rfl) (by kernel_rfl) ?_
      simp only [List.take_succ_cons, List.take_zero, List.drop_succ_cons, List.drop_zero]
      repeat (first | go_big_quiet_step ((go_at_call 40; exact Calls.quiet_of (part_d x hx r.hi r.lo o1 o2 q2' p _ (by go_simp)))) | quiet_step ((go_at_call 40; exact Calls.quiet_of (part_d x hx r.hi r.lo o1 o2 q2' p _ (by go_simp)))))
      refine wpQuiet_nil ?_
      intro nq
      clear hw
      go_wp2_with fail
      go_roundw
      case rel => exact ⟨k + 1, by omega, by go_num, ((hg.alloc _).drewN _).setCell (Nat.le_succ _) _, ((KA.out.alloc _).drewN _).other (by omega) _, by rw [← OR.out, castmul]; exact ((KB.out.alloc _).drewN nq).set _, ((KC.out.alloc _).drewN _).other (by omega) _⟩
      case measure => simp [intOf]; omega
    · obtain rfl : k = n := by omega
      have a4 : wr.cell? ⟨w.heap.size, 4, none⟩ = some (.int .i64 wide) := kA.cell 4
      have b0 : wr.cell? ⟨w.heap.size + 1, 0, none⟩ = some (.int .i64 c) := kB.cell 0
      have b1 : wr.cell? ⟨w.heap.size + 1, 1, none⟩ = some (.int .i64 f) := kB.cell 1
      have b2 : wr.cell? ⟨w.heap.size + 1, 2, none⟩ = some (.bool d) := kB.cell 2
      have b3 : wr.cell? ⟨w.heap.size + 1, 3, none⟩ = some (.int .i64 (fN x 11 7 : Nat)) := kB.cell 3
      have b4 : wr.cell? ⟨w.heap.size + 1, 4, none⟩ = some (.int .i64 0) := kB.cell 4
      have b5 : wr.cell? ⟨w.heap.size + 1, 5, none⟩ = some (.int .i64 0) := kB.cell 5
      have b6 : wr.cell? ⟨w.heap.size + 1, 6, none⟩ = some (.int .u64 (orK x rs k : Nat)) := kB.cell 6
      have fb : wr.frozen? ⟨w.heap.size + 1, 6, none⟩ = false := kB.free 6
      have c0 : wr.cell? ⟨w.heap.size + 1 + 1, 0, none⟩ = some (.int .i64 0) := kC.cell 0
      have c1 : wr.cell? ⟨w.heap.size + 1 + 1, 1, none⟩ = some (.int .i64 0) := kC.cell 1
      have c2 : wr.cell? ⟨w.heap.size + 1 + 1, 2, none⟩ = some (.bool false) := kC.cell 2
      have c3 : wr.cell? ⟨w.heap.size + 1 + 1, 3, none⟩ = some (.int .i64 0) := kC.cell 3
      have c4 : wr.cell? ⟨w.heap.size + 1 + 1, 4, none⟩ = some (.int .i64 0) := kC.cell 4
      have c5 : wr.cell? ⟨w.heap.size + 1 + 1, 5, none⟩ = some (.int .i64 0) := kC.cell 5
      have c6 : wr.cell? ⟨w.heap.size + 1 + 1, 6, none⟩ = some (.int .u64 0) := kC.cell 6
      have fc : ∀ o, wr.frozen? ⟨w.heap.size + 1 + 1, o, none⟩ = false := kC.free
      have hsz := kC.lt
      have hkl := orK_lt x rs hok k (by have := HN.out; omega)
      clear kA kB kC
      go_wp2_with fail
      refine (sext_c _ wide (by omega) (by omega) _).mono ?_
      rintro e w7 ⟨rfl, h7⟩
      obtain rfl := h7.symm
      go_wp2_with fail
      refine bodyPost_ret (v := .agg #[.int .i64 c, .int .i64 f, .bool d, .int .i64 (fN x 11 7 : Nat), .int .i64 0, .int .i64 0, .int .u64 (sextV (orK x rs k : Nat) wide)]) (by simp [results, Try.results27, go_sem, c0, c1, c2, c3, c4, c5, c6]) rfl ⟨rfl, ?_⟩
      exact (((((((hg.setCell (Nat.le_succ _) _).setCell (Nat.le_add_right _ 2) _).setCell (Nat.le_add_right _ 2) _).setCell (Nat.le_add_right _ 2) _).setCell (Nat.le_add_right _ 2) _).setCell (Nat.le_add_right _ 2) _).setCell (Nat.le_add_right _ 2) _).setCell (Nat.le_add_right _ 2) _
set_option maxHeartbeats 1000000 in
theorem fill_ttf (rs : List Run) (hok : rs.all Run.ok = true) (wide c f : Int) (d : Bool) (x : Nat) (hx : x < 4294967296) (p : Nat) (b : Nat) (w : World)
    (hp : p < w.heap.size) (hpc : w.cell? ⟨p, 0, none⟩ = some (.int .u32 (x : Nat)))
    (hb : b < w.heap.size) (hlen : rs.length < 100) (hcell : ∀ k, k < rs.length →
    w.cell? ⟨b, k * 3, none⟩ = some (.int .i64 (rs.getD k default).hi) ∧ w.cell? ⟨b, k * 3 + 1, none⟩ = some (.int .i64 (rs.getD k default).lo) ∧ w.cell? ⟨b, k * 3 + 2, none⟩ = some (.int .i64 (rs.getD k default).pl)) :
    Calls Try.prog 27 #[.agg #[.bool true, .bool true, .bool false, .slice (some ⟨b, 0, none⟩) rs.length rs.length, .int .i64 wide], .agg #[.int .i64 c, .int .i64 f, .bool d, .int .i64 0, .int .i64 0, .int .i64 0, .int .u64 0], partV p] w
      fun e w' => e = .returned (.agg #[.int .i64 c, .int .i64 f, .bool d, .int .i64 (fN x 11 7 : Nat), .int .i64 (fN x 19 15 : Nat), .int .i64 0, .int .u64 (sextV (orK x rs rs.length : Nat) wide)]) ∧ Grew w w' := by
  have HC := Lib.hid hcell
  clear hcell
  obtain ⟨n, hn⟩ : ∃ n, n = rs.length := ⟨_, rfl⟩
  rw [← hn] at hlen ⊢
  have HN := Lib.hid hn
  clear hn
  have l0 := fN_lt x 11 7 32 (by decide)
  have l1 := fN_lt x 19 15 32 (by decide)
  have hp1 : p < w.heap.size + 1 := by omega
  have hp2 : p < w.heap.size + 1 + 1 := by omega
  have hp3 : ¬ p = w.heap.size + 1 := by omega
  go_enter Try.func27, Try.ntmps27
  go_wp2_with fail
  refine (part_d x hx 11 7 (by decide) (by decide) (by decide) p _ (by go_simp)).mono ?_
  rintro e w1 ⟨rfl, n1, rfl⟩
  go_wp2_with fail
  refine (part_d x hx 19 15 (by decide) (by decide) (by decide) p _ (by go_simp)).mono ?_
  rintro e w2 ⟨rfl, n2, rfl⟩
  go_wp2_with fail
  go_loopw [30] (fun i wr => ∃ k : Nat, k ≤ n ∧ i = .int .i64 k ∧ Grew w wr ∧ Blk wr w.heap.size #[.bool true, .bool true, .bool false, .slice (some ⟨b, 0, none⟩) n n, .int .i64 wide] 49 ∧
      Blk wr (w.heap.size + 1) #[.int .i64 c, .int .i64 f, .bool d, .int .i64 (fN x 11 7 : Nat), .int .i64 (fN x 19 15 : Nat), .int .i64 0, .int .u64 (orK x rs k : Nat)] 26 ∧
      Blk wr (w.heap.size + 1 + 1) #[.int .i64 0, .int .i64 0, .bool false, .int .i64 0, .int .i64 0, .int .i64 0, .int .u64 0] 26) (fun i _ => n - (intOf i).toNat)
  case atStart =>
    have hA := Blk.new w #[.bool true, .bool true, .bool false, .slice (some ⟨b, 0, none⟩) n n, .int .i64 wide] 49 w.heap.size rfl
    have hB := Blk.new (w.alloc (.cells #[.bool true, .bool true, .bool false, .slice (some ⟨b, 0, none⟩) n n, .int .i64 wide] 49)) #[.int .i64 c, .int .i64 f, .bool d, .int .i64 0, .int .i64 0, .int .i64 0, .int .u64 0] 26 (w.heap.size + 1) (by simp)
    refine ⟨0, Nat.zero_le _, rfl, ?_, ?_, ?_, ?_⟩
    · repeat (first | with_reducible exact Grew.refl _ | with_reducible refine Grew.alloc ?_ _ | with_reducible refine Grew.drewN ?_ _ | with_reducible refine Grew.setCell ?_ (by omega) _)
    · exact ((((((hA.alloc _).alloc _).drewN _).other (by omega) _).drewN _).other (by omega) _)
    · exact (((((hB.alloc _).drewN _).set _).drewN _).set _)
    · exact (((((Blk.new _ _ _ _ (by simp)).drewN _).other (by omega) _).drewN _).other (by omega) _)
  case round =>
    obtain ⟨k, hk, rfl, hg, kA, kB, kC⟩ := hrel
    by_cases hlt : k < n
    · have hN := HN.out
      obtain ⟨c1, c2, c3⟩ := HC.out k (by omega)
      have g0 := gcell hg
      have e1 : wr.cell? ⟨b, k * 3, none⟩ = some (.int .i64 (rs.getD k default).hi) := by rw [g0.1 _ _ hb]; exact c1
      have e2 : wr.cell? ⟨b, k * 3 + 1, none⟩ = some (.int .i64 (rs.getD k default).lo) := by rw [g0.1 _ _ hb]; exact c2
      have e3 : wr.cell? ⟨b, k * 3 + 2, none⟩ = some (.int .i64 (rs.getD k default).pl) := by rw [g0.1 _ _ hb]; exact c3
      have e4 : wr.cell? ⟨w.heap.size + 1, 6, none⟩ = some (.int .u64 (orK x rs k : Nat)) := kB.cell 6
      have e5 : wr.frozen? ⟨w.heap.size + 1, 6, none⟩ = false := kB.free 6
      have e6 : wr.cell? ⟨p, 0, none⟩ = some (.int .u32 (x : Nat)) := by rw [g0.1 _ _ hp]; exact hpc
      have hsz := kC.lt
      have hs1 : w.heap.size + 1 < wr.heap.size := by omega
      have hs2 : ¬ w.heap.size + 1 = wr.heap.size := by omega
      have hs3 : p < wr.heap.size := by omega
      have hs4 : ¬ p = wr.heap.size := by omega
      obtain ⟨o1, o2, o3, o4, o5⟩ := run_at hok (k := k) (by omega)
      have hstep : orK x rs (k + 1) = orK x rs k ||| fN x (rs.getD k default).hi (rs.getD k default).lo * 2 ^ (rs.getD k default).pl.toNat := rfl
      have hkl := orK_lt x rs hok k (by omega)
      have hbl := run_lt x _ _ _ o1 o2 o3 o4 o5
      have hor := or64 _ _ (Nat.lt_of_lt_of_le hkl (by decide)) (Nat.lt_of_lt_of_le hbl (by decide))
      have hw : IntKind.u64.wrap ((fN x (rs.getD k default).hi (rs.getD k default).lo : Int) * 2 ^ (rs.getD k default).pl.toNat) = ((fN x (rs.getD k default).hi (rs.getD k default).lo * 2 ^ (rs.getD k default).pl.toNat : Nat) : Int) := wrap_cast _ _ (Nat.lt_of_lt_of_le hbl (by decide))
      rw [← hstep] at hor
      clear hstep
      generalize hr : rs.getD k default = r at *
      have q2' : r.hi ≤ 63 := by omega
      have OR := Lib.hid hor
      have WR := Lib.hid hw
      have KA := Lib.hid kA
      have KB := Lib.hid kB
      have KC := Lib.hid kC
      clear c1 c2 c3 g0 hN hor hw hr hbl hkl kA kB kC
      go_wp2_with fail
      have hw := WR.out
      have hs5 : ¬ wr.heap.size = w.heap.size + 1 := by omega
      refine region_quiet_tail 13 (by kernel_rfl) (by kernel_rfl) ?_
      simp only [List.take_succ_cons, List.take_zero, List.drop_succ_cons, List.drop_zero]
      repeat (first | go_big_quiet_step ((go_at_call 40; exact Calls.quiet_of (part_d x hx r.hi r.lo o1 o2 q2' p _ (by go_simp)))) | quiet_step ((go_at_call 40; exact Calls.quiet_of (part_d x hx r.hi r.lo o1 o2 q2' p _ (by go_simp)))))
      refine wpQuiet_nil ?_
      intro nq
      clear hw
      go_wp2_with fail
      go_roundw
      case rel => exact ⟨k + 1, by omega, by go_num, ((hg.alloc _).drewN _).setCell (Nat.le_succ _) _, ((KA.out.alloc _).drewN _).other (by omega) _, by rw [← OR.out, castmul]; exact ((KB.out.alloc _).drewN nq).set _, ((KC.out.alloc _).drewN _).other (by omega) _⟩
      case measure => simp [intOf]; omega
    · obtain rfl : k = n := by omega
      have a4 : wr.cell? ⟨w.heap.size, 4, none⟩ = some (.int .i64 wide) := kA.cell 4
      have b0 : wr.cell? ⟨w.heap.size + 1, 0, none⟩ = some (.int .i64 c) := kB.cell 0
      have b1 : wr.cell? ⟨w.heap.size + 1, 1, none⟩ = some (.int .i64 f) := kB.cell 1
      have b2 : wr.cell? ⟨w.heap.size + 1, 2, none⟩ = some (.bool d) := kB.cell 2
      have b3 : wr.cell? ⟨w.heap.size + 1, 3, none⟩ = some (.int .i64 (fN x 11 7 : Nat)) := kB.cell 3
      have b4 : wr.cell? ⟨w.heap.size + 1, 4, none⟩ = some (.int .i64 (fN x 19 15 : Nat)) := kB.cell 4
      have b5 : wr.cell? ⟨w.heap.size + 1, 5, none⟩ = some (.int .i64 0) := kB.cell 5
      have b6 : wr.cell? ⟨w.heap.size + 1, 6, none⟩ = some (.int .u64 (orK x rs k : Nat)) := kB.cell 6
      have fb : wr.frozen? ⟨w.heap.size + 1, 6, none⟩ = false := kB.free 6
      have c0 : wr.cell? ⟨w.heap.size + 1 + 1, 0, none⟩ = some (.int .i64 0) := kC.cell 0
      have c1 : wr.cell? ⟨w.heap.size + 1 + 1, 1, none⟩ = some (.int .i64 0) := kC.cell 1
      have c2 : wr.cell? ⟨w.heap.size + 1 + 1, 2, none⟩ = some (.bool false) := kC.cell 2
      have c3 : wr.cell? ⟨w.heap.size + 1 + 1, 3, none⟩ = some (.int .i64 0) := kC.cell 3
      have c4 : wr.cell? ⟨w.heap.size + 1 + 1, 4, none⟩ = some (.int .i64 0) := kC.cell 4
      have c5 : wr.cell? ⟨w.heap.size + 1 + 1, 5, none⟩ = some (.int .i64 0) := kC.cell 5
      have c6 : wr.cell? ⟨w.heap.size + 1 + 1, 6, none⟩ = some (.int .u64 0) := kC.cell 6
      have fc : ∀ o, wr.frozen? ⟨w.heap.size + 1 + 1, o, none⟩ = false := kC.free
      have hsz := kC.lt
      have hkl := orK_lt x rs hok k (by have := HN.out; omega)
      clear kA kB kC
      go_wp2_with fail
      refine (sext_c _ wide (by omega) (by omega) _).mono ?_
      rintro e w7 ⟨rfl, h7⟩
      obtain rfl := h7.symm
      go_wp2_with fail
      refine bodyPost_ret (v := .agg #[.int .i64 c, .int .i64 f, .bool d, .int .i64 (fN x 11 7 : Nat), .int .i64 (fN x 19 15 : Nat), .int .i64 0, .int .u64 (sextV (orK x rs k : Nat) wide)]) (by simp [results, Try.results27, go_sem, c0, c1, c2, c3, c4, c5, c6]) rfl ⟨rfl, ?_⟩
      exact (((((((hg.setCell (Nat.le_succ _) _).setCell (Nat.le_add_right _ 2) _).setCell (Nat.le_add_right _ 2) _).setCell (Nat.le_add_right _ 2) _).setCell (Nat.le_add_right _ 2) _).setCell (Nat.le_add_right _ 2) _).setCell (Nat.le_add_right _ 2) _).setCell (Nat.le_add_right _ 2) _
set_option maxHeartbeats 1000000 in
theorem fill_ftt (rs : List Run) (hok : rs.all Run.ok = true) (wide c f : Int) (d : Bool) (x : Nat) (hx : x < 4294967296) (p : Nat) (b : Nat) (w : World)
    (hp : p < w.heap.size) (hpc : w.cell? ⟨p, 0, none⟩ = some (.int .u32 (x : Nat)))
    (hb : b < w.heap.size) (hlen : rs.length < 100) (hcell : ∀ k, k < rs.length →
    w.cell? ⟨b, k * 3, none⟩ = some (.int .i64 (rs.getD k default).hi) ∧ w.cell? ⟨b, k * 3 + 1, none⟩ = some (.int .i64 (rs.getD k default).lo) ∧ w.cell? ⟨b, k * 3 + 2, none⟩ = some (.int .i64 (rs.getD k default).pl)) :
    Calls Try.prog 27 #[.agg #[.bool false, .bool true, .bool true, .slice (some ⟨b, 0, none⟩) rs.length rs.length, .int .i64 wide], .agg #[.int .i64 c, .int .i64 f, .bool d, .int .i64 0, .int .i64 0, .int .i64 0, .int .u64 0], partV p] w
      fun e w' => e = .returned (.agg #[.int .i64 c, .int .i64 f, .bool d, .int .i64 0, .int .i64 (fN x 19 15 : Nat), .int .i64 (fN x 24 20 : Nat), .int .u64 (sextV (orK x rs rs.length : Nat) wide)]) ∧ Grew w w' := by
  have HC := Lib.hid hcell
  clear hcell
  obtain ⟨n, hn⟩ : ∃ n, n = rs.length := ⟨_, rfl⟩
  rw [← hn] at hlen ⊢
  have HN := Lib.hid hn
  clear hn
  have l1 := fN_lt x 19 15 32 (by decide)
  have l2 := fN_lt x 24 20 32 (by decide)
  have hp1 : p < w.heap.size + 1 := by omega
  have hp2 : p < w.heap.size + 1 + 1 := by omega
  have hp3 : ¬ p = w.heap.size + 1 := by omega
  go_enter Try.func27, Try.ntmps27
  go_wp2_with fail
  refine (part_d x hx 19 15 (by decide) (by decide) (by decide) p _ (by go_simp)).mono ?_
  rintro e w1 ⟨rfl, n1, rfl⟩
  go_wp2_with fail
  refine (part_d x hx 24 20 (by decide) (by decide) (by decide) p _ (by go_simp)).mono ?_
  rintro e w2 ⟨rfl, n2, rfl⟩
  go_wp2_with fail
  go_loopw [30] (fun i wr => ∃ k : Nat, k ≤ n ∧ i = .int .i64 k ∧ Grew w wr ∧ Blk wr w.heap.size #[.bool false, .bool true, .bool true, .slice (some ⟨b, 0, none⟩) n n, .int .i64 wide] 49 ∧
      Blk wr (w.heap.size + 1) #[.int .i64 c, .int .i64 f, .bool d, .int .i64 0, .int .i64 (fN x 19 15 : Nat), .int .i64 (fN x 24 20 : Nat), .int .u64 (orK x rs k : Nat)] 26 ∧
      Blk wr (w.heap.size + 1 + 1) #[.int .i64 0, .int .i64 0, .bool false, .int .i64 0, .int .i64 0, .int .i64 0, .int .u64 0] 26) (fun i _ => n - (intOf i).toNat)
  case atStart =>
    have hA := Blk.new w #[.bool false, .bool true, .bool true, .slice (some ⟨b, 0, none⟩) n n, .int .i64 wide] 49 w.heap.size rfl
    have hB := Blk.new (w.alloc (.cells #[.bool false, .bool true, .bool true, .slice (some ⟨b, 0, none⟩) n n, .int .i64 wide] 49)) #[.int .i64 c, .int .i64 f, .bool d, .int .i64 0, .int .i64 0, .int .i64 0, .int .u64 0] 26 (w.heap.size + 1) (by simp)
    refine ⟨0, Nat.zero_le _, rfl, ?_, ?_, ?_, ?_⟩
    · repeat (first | with_reducible exact Grew.refl _ | with_reducible refine Grew.alloc ?_ _ | with_reducible refine Grew.drewN ?_ _ | with_reducible refine Grew.setCell ?_ (by omega) _)
    · exact ((((((hA.alloc _).alloc _).drewN _).other (by omega) _).drewN _).other (by omega) _)
    · exact (((((hB.alloc _).drewN _).set _).drewN _).set _)
    · exact (((((Blk.new _ _ _ _ (by simp)).drewN _).other (by omega) _).drewN _).other (by omega) _)
  case round =>
    obtain ⟨k, hk, rfl, hg, kA, kB, kC⟩ := hrel
    by_cases hlt : k < n
    · have hN := HN.out
      obtain ⟨c1, c2, c3⟩ := HC.out k (by omega)
      have g0 := gcell hg
      have e1 : wr.cell? ⟨b, k * 3, none⟩ = some (.int .i64 (rs.getD k default).hi) := by rw [g0.1 _ _ hb]; exact c1
      have e2 : wr.cell? ⟨b, k * 3 + 1, none⟩ = some (.int .i64 (rs.getD k default).lo) := by rw [g0.1 _ _ hb]; exact c2
      have e3 : wr.cell? ⟨b, k * 3 + 2, none⟩ = some (.int .i64 (rs.getD k default).pl) := by rw [g0.1 _ _ hb]; exact c3
      have e4 : wr.cell? ⟨w.heap.size + 1, 6, none⟩ = some (.int .u64 (orK x rs k : Nat)) := kB.cell 6
      have e5 : wr.frozen? ⟨w.heap.size + 1, 6, none⟩ = false := kB.free 6
      have e6 : wr.cell? ⟨p, 0, none⟩ = some (.int .u32 (x : Nat)) := by rw [g0.1 _ _ hp]; exact hpc
      have hsz := kC.lt
      have hs1 : w.heap.size + 1 < wr.heap.size := by omega
      have hs2 : ¬ w.heap.size + 1 = wr.heap.size := by omega
      have hs3 : p < wr.heap.size := by omega
      have hs4 : ¬ p = wr.heap.size := by omega
      obtain ⟨o1, o2, o3, o4, o5⟩ := run_at hok (k := k) (by omega)
      have hstep : orK x rs (k + 1) = orK x rs k ||| fN x (rs.getD k default).hi (rs.getD k default).lo * 2 ^ (rs.getD k default).pl.toNat := rfl
      have hkl := orK_lt x rs hok k (by omega)
      have hbl := run_lt x _ _ _ o1 o2 o3 o4 o5
      have hor := or64 _ _ (Nat.lt_of_lt_of_le hkl (by decide)) (Nat.lt_of_lt_of_le hbl (by decide))
      have hw : IntKind.u64.wrap ((fN x (rs.getD k default).hi (rs.getD k default).lo : Int) * 2 ^ (rs.getD k default).pl.toNat) = ((fN x (rs.getD k default).hi (rs.getD k default).lo * 2 ^ (rs.getD k default).pl.toNat : Nat) : Int) := wrap_cast _ _ (Nat.lt_of_lt_of_le hbl (by decide))
      rw [← hstep] at hor
      clear hstep
      generalize hr : rs.getD k default = r at *
      have q2' : r.hi ≤ 63 := by omega
      have OR := Lib.hid hor
      have WR := Lib.hid hw
      have KA := Lib.hid kA
      have KB := Lib.hid kB
      have KC := Lib.hid kC
      clear c1 c2 c3 g0 hN hor hw hr hbl hkl kA kB kC
      go_wp2_with fail
      have hw := WR.out
      have hs5 : ¬ wr.heap.size = w.heap.size + 1 := by omega
      refine region_quiet_tail 13 (by kernel_rfl) (by kernel_rfl) ?_
      simp only [List.take_succ_cons, List.take_zero, List.drop_succ_cons, List.drop_zero]
      repeat (first | go_big_quiet_step ((go_at_call 40; exact Calls.quiet_of (part_d x hx r.hi r.lo o1 o2 q2' p _ (by go_simp)))) | quiet_step ((go_at_call 40; exact Calls.quiet_of (part_d x hx r.hi r.lo o1 o2 q2' p _ (by go_simp)))))
      refine wpQuiet_nil ?_
      intro nq
      clear hw
      go_wp2_with fail
      go_roundw
      case rel => exact ⟨k + 1, by omega, by go_num, ((hg.alloc _).drewN _).setCell (Nat.le_succ _) _, ((KA.out.alloc _).drewN _).other (by omega) _, by rw [← OR.out, castmul]; exact ((KB.out.alloc _).drewN nq).set _, ((KC.out.alloc _).drewN _).other (by omega) _⟩
      case measure => simp [intOf]; omega
    · obtain rfl : k = n := by omega
      have a4 : wr.cell? ⟨w.heap.size, 4, none⟩ = some (.int .i64 wide) := kA.cell 4
      have b0 : wr.cell? ⟨w.heap.size + 1, 0, none⟩ = some (.int .i64 c) := kB.cell 0
      have b1 : wr.cell? ⟨w.heap.size + 1, 1, none⟩ = some (.int .i64 f) := kB.cell 1
      have b2 : wr.cell? ⟨w.heap.size + 1, 2, none⟩ = some (.bool d) := kB.cell 2
      have b3 : wr.cell? ⟨w.heap.size + 1, 3, none⟩ = some (.int .i64 0) := kB.cell 3
      have b4 : wr.cell? ⟨w.heap.size + 1, 4, none⟩ = some (.int .i64 (fN x 19 15 : Nat)) := kB.cell 4
      have b5 : wr.cell? ⟨w.heap.size + 1, 5, none⟩ = some (.int .i64 (fN x 24 20 : Nat)) := kB.cell 5
      have b6 : wr.cell? ⟨w.heap.size + 1, 6, none⟩ = some (.int .u64 (orK x rs k : Nat)) := kB.cell 6
      have fb : wr.frozen? ⟨w.heap.size + 1, 6, none⟩ = false := kB.free 6
      have c0 : wr.cell? ⟨w.heap.size + 1 + 1, 0, none⟩ = some (.int .i64 0) := kC.cell 0
      have c1 : wr.cell? ⟨w.heap.size + 1 + 1, 1, none⟩ = some (.int .i64 0) := kC.cell 1
      have c2 : wr.cell? ⟨w.heap.size + 1 + 1, 2, none⟩ = some (.bool false) := kC.cell 2
      have c3 : wr.cell? ⟨w.heap.size + 1 + 1, 3, none⟩ = some (.int .i64 0) := kC.cell 3
      have c4 : wr.cell? ⟨w.heap.size + 1 + 1, 4, none⟩ = some (.int .i64 0) := kC.cell 4
      have c5 : wr.cell? ⟨w.heap.size + 1 + 1, 5, none⟩ = some (.int .i64 0) := kC.cell 5
      have c6 : wr.cell? ⟨w.heap.size + 1 + 1, 6, none⟩ = some (.int .u64 0) := kC.cell 6
      have fc : ∀ o, wr.frozen? ⟨w.heap.size + 1 + 1, o, none⟩ = false := kC.free
      have hsz := kC.lt
      have hkl := orK_lt x rs hok k (by have := HN.out; omega)
      clear kA kB kC
      go_wp2_with fail
      refine (sext_c _ wide (by omega) (by omega) _).mono ?_
      rintro e w7 ⟨rfl, h7⟩
      obtain rfl := h7.symm
      go_wp2_with fail
      refine bodyPost_ret (v := .agg #[.int .i64 c, .int .i64 f, .bool d, .int .i64 0, .int .i64 (fN x 19 15 : Nat), .int .i64 (fN x 24 20 : Nat), .int .u64 (sextV (orK x rs k : Nat) wide)]) (by simp [results, Try.results27, go_sem, c0, c1, c2, c3, c4, c5, c6]) rfl ⟨rfl, ?_⟩
      exact (((((((hg.setCell (Nat.le_succ _) _).setCell (Nat.le_add_right _ 2) _).setCell (Nat.le_add_right _ 2) _).setCell (Nat.le_add_right _ 2) _).setCell (Nat.le_add_right _ 2) _).setCell (Nat.le_add_right _ 2) _).setCell (Nat.le_add_right _ 2) _).setCell (Nat.le_add_right _ 2) _
set_option maxHeartbeats 1000000 in
theorem fill_ttt_nil (wide c f : Int) (d : Bool) (x : Nat) (hx : x < 4294967296) (p : Nat) (w : World) (hp : p < w.heap.size) (hpc : w.cell? ⟨p, 0, none⟩ = some (.int .u32 (x : Nat))) :
    Calls Try.prog 27 #[.agg #[.bool true, .bool true, .bool true, .slice none 0 0, .int .i64 wide], .agg #[.int .i64 c, .int .i64 f, .bool d, .int .i64 0, .int .i64 0, .int .i64 0, .int .u64 0], partV p] w fun e w' => e = .returned (.agg #[.int .i64 c, .int .i64 f, .bool d, .int .i64 (fN x 11 7 : Nat), .int .i64 (fN x 19 15 : Nat), .int .i64 (fN x 24 20 : Nat), .int .u64 (sextV 0 wide)]) ∧ Grew w w' := by
  have l0 := fN_lt x 11 7 32 (by decide)
  have l1 := fN_lt x 19 15 32 (by decide)
  have l2 := fN_lt x 24 20 32 (by decide)
  have hp1 : p < w.heap.size + 1 := by omega
  have hp2 : p < w.heap.size + 1 + 1 := by omega
  have hp3 : ¬ p = w.heap.size + 1 := by omega
  go_enter Try.func27, Try.ntmps27
  go_wp2_with fail
  refine (part_d x hx 11 7 (by decide) (by decide) (by decide) p _ (by go_simp)).mono ?_
  rintro e w1 ⟨rfl, n1, rfl⟩
  go_wp2_with fail
  refine (part_d x hx 19 15 (by decide) (by decide) (by decide) p _ (by go_simp)).mono ?_
  rintro e w2 ⟨rfl, n2, rfl⟩
  go_wp2_with fail
  refine (part_d x hx 24 20 (by decide) (by decide) (by decide) p _ (by go_simp)).mono ?_
  rintro e w3 ⟨rfl, n3, rfl⟩
  go_wp2_with fail
  refine wp_loop_rounds 1 ?_
  rw [rounds_succ]
  go_wp2_with fail
  refine (sext_c 0 wide (by omega) (by omega) _).mono ?_
  rintro e w7 ⟨rfl, h7⟩
  obtain rfl := h7.symm
  go_wp2_with fail
  go_returns
  exact ⟨rfl, (by repeat (first | with_reducible exact Grew.refl _ | with_reducible refine Grew.alloc ?_ _ | with_reducible refine Grew.drewN ?_ _ | with_reducible refine Grew.setCell ?_ (by omega) _))⟩
set_option maxHeartbeats 1000000 in
theorem fill_ftt_nil (wide c f : Int) (d : Bool) (x : Nat) (hx : x < 4294967296) (p : Nat) (w : World) (hp : p < w.heap.size) (hpc : w.cell? ⟨p, 0, none⟩ = some (.int .u32 (x : Nat))) :
    Calls Try.prog 27 #[.agg #[.bool false, .bool true, .bool true, .slice none 0 0, .int .i64 wide], .agg #[.int .i64 c, .int .i64 f, .bool d, .int .i64 0, .int .i64 0, .int .i64 0, .int .u64 0], partV p] w fun e w' => e = .returned (.agg #[.int .i64 c, .int .i64 f, .bool d, .int .i64 0, .int .i64 (fN x 19 15 : Nat), .int .i64 (fN x 24 20 : Nat), .int .u64 (sextV 0 wide)]) ∧ Grew w w' := by
  have l1 := fN_lt x 19 15 32 (by decide)
  have l2 := fN_lt x 24 20 32 (by decide)
  have hp1 : p < w.heap.size + 1 := by omega
  have hp2 : p < w.heap.size + 1 + 1 := by omega
  have hp3 : ¬ p = w.heap.size + 1 := by omega
  go_enter Try.func27, Try.ntmps27
  go_wp2_with fail
  refine (part_d x hx 19 15 (by decide) (by decide) (by decide) p _ (by go_simp)).mono ?_
  rintro e w1 ⟨rfl, n1, rfl⟩
  go_wp2_with fail
  refine (part_d x hx 24 20 (by decide) (by decide) (by decide) p _ (by go_simp)).mono ?_
  rintro e w2 ⟨rfl, n2, rfl⟩
  go_wp2_with fail
  refine wp_loop_rounds 1 ?_
  rw [rounds_succ]
  go_wp2_with fail
  refine (sext_c 0 wide (by omega) (by omega) _).mono ?_
  rintro e w7 ⟨rfl, h7⟩
  obtain rfl := h7.symm
  go_wp2_with fail
  go_returns
  exact ⟨rfl, (by repeat (first | with_reducible exact Grew.refl _ | with_reducible refine Grew.alloc ?_ _ | with_reducible refine Grew.drewN ?_ _ | with_reducible refine Grew.setCell ?_ (by omega) _))⟩
set_option maxHeartbeats 1000000 in
theorem fill_fff_nil (wide c f : Int) (d : Bool) (x : Nat) (hx : x < 4294967296) (p : Nat) (w : World) (hp : p < w.heap.size) (hpc : w.cell? ⟨p, 0, none⟩ = some (.int .u32 (x : Nat))) :
    Calls Try.prog 27 #[.agg #[.bool false, .bool false, .bool false, .slice none 0 0, .int .i64 wide], .agg #[.int .i64 c, .int .i64 f, .bool d, .int .i64 0, .int .i64 0, .int .i64 0, .int .u64 0], partV p] w fun e w' => e = .returned (.agg #[.int .i64 c, .int .i64 f, .bool d, .int .i64 0, .int .i64 0, .int .i64 0, .int .u64 (sextV 0 wide)]) ∧ Grew w w' := by
  have hp1 : p < w.heap.size + 1 := by omega
  have hp2 : p < w.heap.size + 1 + 1 := by omega
  have hp3 : ¬ p = w.heap.size + 1 := by omega
  go_enter Try.func27, Try.ntmps27
  go_wp2_with fail
  refine wp_loop_rounds 1 ?_
  rw [rounds_succ]
  go_wp2_with fail
  refine (sext_c 0 wide (by omega) (by omega) _).mono ?_
  rintro e w7 ⟨rfl, h7⟩
  obtain rfl := h7.symm
  go_wp2_with fail
  go_returns
  exact ⟨rfl, (by repeat (first | with_reducible exact Grew.refl _ | with_reducible refine Grew.alloc ?_ _ | with_reducible refine Grew.drewN ?_ _ | with_reducible refine Grew.setCell ?_ (by omega) _))⟩
/-- What fill answers: the parts that the shape names. -/
def regN (b : Bool) (x : Nat) (hi lo : Int) : Nat := if b then fN x hi lo else 0
def immN (s : Shp) (x : Nat) : Int := sextV (orK x s.runs s.runs.length : Nat) s.wide
abbrev fillV (s : Shp) (c f : Int) (d : Bool) (x : Nat) : Value := .agg #[.int .i64 c, .int .i64 f, .bool d, .int .i64 (regN s.rd x 11 7 : Nat), .int .i64 (regN s.rs1 x 19 15 : Nat), .int .i64 (regN s.rs2 x 24 20 : Nat), .int .u64 (immN s x)]
theorem fill_c (c f c' f' : Int) (d : Bool) (x : Nat) (hx : x < 4294967296) (p : Nat) (a : Option Addr) (n B : Nat) (w : World) (hp : p < w.heap.size) (hpc : w.cell? ⟨p, 0, none⟩ = some (.int .u32 (x : Nat))) (hv : RunsIn B w (.slice a n n) (shp c f).runs) :
    Calls Try.prog 27 #[sV (shp c f) (.slice a n n), .agg #[.int .i64 c', .int .i64 f', .bool d, .int .i64 0, .int .i64 0, .int .i64 0, .int .u64 0], partV p] w
      fun e w' => e = .returned (fillV (shp c f) c' f' d x) ∧ Grew w w' := by
  have hok := shp_ok c f
  have hf := shp_form c f
  generalize shp c f = s at *
  obtain ⟨rd, s1, s2, rs, wide⟩ := s
  rcases hf with ⟨hl, hq⟩ | ⟨hl, hq⟩
  · rcases hv with ⟨h0, _⟩ | ⟨_, b, hv, _, hb, hcell⟩
    · simp only at hl h0; rw [h0] at hl; simp at hl
    · simp only [Value.slice.injEq] at hv
      obtain ⟨rfl, rfl, _⟩ := hv
      rcases hq with ⟨h1, h2, h3⟩ | ⟨h1, h2, h3⟩ | ⟨h1, h2, h3⟩ <;> simp only at h1 h2 h3 hl hok hcell <;> subst h1 h2 h3
      · exact fill_tff rs hok wide c' f' d x hx p b w hp hpc hb hl.2 hcell
      · exact fill_ftt rs hok wide c' f' d x hx p b w hp hpc hb hl.2 hcell
      · exact fill_ttf rs hok wide c' f' d x hx p b w hp hpc hb hl.2 hcell
  · simp only at hl
    subst hl
    rcases hv with ⟨_, hv⟩ | ⟨h0, _⟩
    · simp only [Value.slice.injEq] at hv
      obtain ⟨rfl, rfl, _⟩ := hv
      rcases hq with ⟨h1, h2, h3⟩ | ⟨h1, h2, h3⟩ | ⟨h1, h2, h3⟩ <;> simp only at h1 h2 h3 <;> subst h1 h2 h3
      · exact fill_ttt_nil wide c' f' d x hx p w hp hpc
      · exact fill_ftt_nil wide c' f' d x hx p w hp hpc
      · exact fill_fff_nil wide c' f' d x hx p w hp hpc
    · exact (h0 rfl).elim
end Go.Proofs.Ytgekmhcekkmdhaa
