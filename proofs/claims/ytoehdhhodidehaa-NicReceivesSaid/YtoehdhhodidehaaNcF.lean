/-
  Package nic: the descriptor of a ring's head, copied (next), and what a broken ring makes.
-/
import Derived.Test.YtoehdhhodidehaaRows
import Derived.Test.YtoehdhhodidehaaNcC
import Derived.WalkKit
import Derived.Outline
import Derived.Handy
import Derived.StillTailTactics
import Derived.Deep.QuietTactic
import Derived.BigQuiet
import Derived.Deep.DeepCutAuto
import Derived.Deep.RegionHeld3
import Derived.Great.BuildSlice
import Derived.Deep.WholeRow
import Derived.Lib.SliceRun
set_option maxRecDepth 4000
set_option linter.unusedVariables false
set_option linter.unusedSimpArgs false
namespace Go.Proofs.Ytoehdhhodidehaa
open Go.RowKit

abbrev zeroD : List Int := [0, 0, 0, 0, 0, 0, 0, 0, 0, 0, 0, 0, 0, 0, 0, 0]
theorem st_ds {ops : Array Oper} {rest : List Oper} {o : Oper} {a : Act} {w : World} {Q : Exit → Act → World → Prop} (hgd : o.guard = none) (x y : Operand) (ho : o.op = .store 86 x y) (hd : o.dst = none) {g : Nat} (xs : List Int) (hl : xs.length = 16) {old : Array Value} {T : TypeId}
    (k : Blk w g old T) (hold : old.size = 16) (hx : a.eval x = .pointer (some ⟨g, 0, none⟩)) (hy : a.eval y = .agg (dsA xs))
    (h : ∀ w', Blk w' g (dsA xs) T → Only w w' g → wpList Try.prog ops Q rest a w') : wpList Try.prog ops Q (o :: rest) a w :=
  wpList_store_rowTo hgd _ x y ho hd g (dsA xs) hx hy T old k (by rw [dsA_size, hl]; exact dsInfo) (by rw [hold, dsA_size, hl]) (dsA_one xs) (h _ (Blk.setRow k) (Only.setRow _ _ _))
theorem copy_ds {ops : Array Oper} {rest : List Oper} {o : Oper} {a : Act} {w : World} {Q : Exit → Act → World → Prop} (hgd : o.guard = none) (d s : Operand)
    (ho : o.op = .call { callee := .builtin .copy, args := #[d, s], argTypes := #[23, 23] }) {g : Nat} {old xs : List Int} (k : Blk w g (dsA old) 86) (hold : old.length = 16) {u : Value} (hu : Buf w u xs) (hx : xs.length = 16) (hs : a.eval s = u) (hd : a.eval d = .slice (some ⟨g, 0, none⟩) 16 16)
    (h : ∀ w', Blk w' g (dsA xs) 86 → Only w w' g → wpList Try.prog ops Q rest (a.put o.dst (goInt 16)) w') : wpList Try.prog ops Q (o :: rest) a w := by
  obtain ⟨i0, hi, hz0, hz1, hz2⟩ := info_parts u8_info
  obtain ⟨sp, sc, rfl, _, _⟩ := hu.shape
  obtain ⟨ad, rfl, hsrc⟩ := hu.src (n := xs.length) (by omega)
  have hsz : (Try.prog.info? 5).map (·.size) = some 1 := by simp [hi, hz1]
  refine wpList_copy_own hgd d s 23 23 ho 5 Try.underlying23 hsz g 0 16 16 ad xs.length sc hd hs (dsA old) 86 k (xs.map (Value.int .u8)) (by rw [List.length_map, hx]; rfl) hsrc (by rw [List.length_map, dsA_size]; omega)
    (fun x hx => by obtain ⟨y, _, rfl⟩ := List.mem_map.1 hx; rfl) ?_
  have e : ((dsA old).toList.take 0 ++ (xs.map (Value.int .u8) ++ (dsA old).toList.drop (0 + (xs.map (Value.int .u8)).length))).toArray = dsA xs := by
    rw [List.take_zero, List.nil_append, List.drop_of_length_le (by rw [List.length_map, Array.length_toList, dsA_size]; omega), List.append_nil]
    rfl
  rw [e, List.length_map, hx]
  exact h _ (Blk.setRow k) (Only.setRow _ _ _)
theorem results_ds {fn : Func} {p q : Tmp} (h : fn.results = #[.cell p 86, .tmp q]) (tmps : Array Value) (w : World) (g : Nat) {xs : List Int} {T : TypeId} (hl : xs.length = 16) (k : Blk w g (dsA xs) T)
    (hp : tmps.getD p undef = .pointer (some ⟨g, 0, none⟩)) : (results fn tmps).run Try.prog w = .ok (.tuple #[.agg (dsA xs), tmps.getD q undef]) w := by
  have hp' : tmps[p]?.getD undef = .pointer (some ⟨g, 0, none⟩) := by simpa using hp
  simp [results, h, hp', asAddr, var_ds hl k]
theorem Blk.only' {w w' : World} {g b : Nat} {cs : Array Value} {T : TypeId} (h : Blk w b cs T) (o : Only w w' g) (hb : b ≠ g) : Blk w' b cs T := h.only o hb
theorem bytesV_16 {xs : List Int} {x : Int} (h : insideV xs.length x 16 = true) : (bytesV xs x 16).length = 16 := by
  obtain ⟨lo, k, rfl, hk, hlo⟩ := insideV_no h
  obtain rfl : k = 16 := by omega
  rw [show (16 : Int) = ((16 : Nat) : Int) from rfl, bytesV_in hlo, cutL_length (by omega) hlo]
  omega
/-- What a broken ring makes. -/
def broket (c : Nat → Int) : Nat → Int := failC (upd c 0 (c 0 - 1))
set_option maxHeartbeats 2000000 in
theorem next_t_yes {c : Nat → Int} {p : Nat} {w : World} {v : Value} {xs : List Int} (hB : Blk w p (rgA c) 80) (hM : Buf w v xs) (hl : xs.length ≤ 140737488355328) (h0 : 0 ≤ c 3) (h1 : c 3 < 4294967296) (h2 : 0 ≤ c 5) (h3 : c 5 < 64) (hin : insideV xs.length (c 3 + 16 * c 5) 16 = true) :
    Calls Try.prog 56 #[.pointer (some ⟨p, 0, none⟩), .agg (rgVt), .agg #[v]] w fun e w' => e = .returned (.tuple #[.agg (dsA (bytesV xs (c 3 + 16 * c 5) 16)), .bool true]) ∧ Blk w' p (rgA c) 80 ∧ Trn p w w' := by
  have hPl := Lib.hid (fun (w : World) (h : Blk w p (rgA c) 80) => place_t h h0 h1 h2 h3)
  have hBy := Lib.hid (fun (w : World) (h : Buf w v xs) => bytes_c (c 3 + 16 * c 5) 16 (by omega) (by omega) (by decide) (by decide) w h hl)
  rw [hin] at hBy
  have h16 := Lib.hid (bytesV_16 hin)
  generalize bytesV xs (c 3 + 16 * c 5) 16 = zs at *
  generalize c 3 + 16 * c 5 = at0 at *
  have HM := Lib.hid hM
  have hp := hB.lt
  clear hin hM hl h0 h1 h2 h3
  go_enter Try.func56, Try.ntmps56
  go_upto_region 2 with fail
  have kG : Blk ((((w.alloc (.cells rgVt 82)).alloc (.cells #[v] 27)).alloc (.cells #[.int .u8 0, .int .u8 0, .int .u8 0, .int .u8 0, .int .u8 0, .int .u8 0, .int .u8 0, .int .u8 0, .int .u8 0, .int .u8 0, .int .u8 0, .int .u8 0, .int .u8 0, .int .u8 0, .int .u8 0, .int .u8 0] 86)).alloc (.cells #[.int .u8 0, .int .u8 0, .int .u8 0, .int .u8 0, .int .u8 0, .int .u8 0, .int .u8 0, .int .u8 0, .int .u8 0, .int .u8 0, .int .u8 0, .int .u8 0, .int .u8 0, .int .u8 0, .int .u8 0, .int .u8 0] 86)) w.heap.size rgVt 82 := (((Blk.new w rgVt 82 _ rfl).alloc (.cells #[v] 27)).alloc (.cells #[.int .u8 0, .int .u8 0, .int .u8 0, .int .u8 0, .int .u8 0, .int .u8 0, .int .u8 0, .int .u8 0, .int .u8 0, .int .u8 0, .int .u8 0, .int .u8 0, .int .u8 0, .int .u8 0, .int .u8 0, .int .u8 0] 86)).alloc (.cells #[.int .u8 0, .int .u8 0, .int .u8 0, .int .u8 0, .int .u8 0, .int .u8 0, .int .u8 0, .int .u8 0, .int .u8 0, .int .u8 0, .int .u8 0, .int .u8 0, .int .u8 0, .int .u8 0, .int .u8 0, .int .u8 0] 86)
  have kM : Blk ((((w.alloc (.cells rgVt 82)).alloc (.cells #[v] 27)).alloc (.cells #[.int .u8 0, .int .u8 0, .int .u8 0, .int .u8 0, .int .u8 0, .int .u8 0, .int .u8 0, .int .u8 0, .int .u8 0, .int .u8 0, .int .u8 0, .int .u8 0, .int .u8 0, .int .u8 0, .int .u8 0, .int .u8 0] 86)).alloc (.cells #[.int .u8 0, .int .u8 0, .int .u8 0, .int .u8 0, .int .u8 0, .int .u8 0, .int .u8 0, .int .u8 0, .int .u8 0, .int .u8 0, .int .u8 0, .int .u8 0, .int .u8 0, .int .u8 0, .int .u8 0, .int .u8 0] 86)) (w.heap.size + 1) #[v] 27 := ((Blk.new (w.alloc (.cells rgVt 82)) #[v] 27 _ (by simp)).alloc (.cells #[.int .u8 0, .int .u8 0, .int .u8 0, .int .u8 0, .int .u8 0, .int .u8 0, .int .u8 0, .int .u8 0, .int .u8 0, .int .u8 0, .int .u8 0, .int .u8 0, .int .u8 0, .int .u8 0, .int .u8 0, .int .u8 0] 86)).alloc (.cells #[.int .u8 0, .int .u8 0, .int .u8 0, .int .u8 0, .int .u8 0, .int .u8 0, .int .u8 0, .int .u8 0, .int .u8 0, .int .u8 0, .int .u8 0, .int .u8 0, .int .u8 0, .int .u8 0, .int .u8 0, .int .u8 0] 86)
  have kR : Blk ((((w.alloc (.cells rgVt 82)).alloc (.cells #[v] 27)).alloc (.cells #[.int .u8 0, .int .u8 0, .int .u8 0, .int .u8 0, .int .u8 0, .int .u8 0, .int .u8 0, .int .u8 0, .int .u8 0, .int .u8 0, .int .u8 0, .int .u8 0, .int .u8 0, .int .u8 0, .int .u8 0, .int .u8 0] 86)).alloc (.cells #[.int .u8 0, .int .u8 0, .int .u8 0, .int .u8 0, .int .u8 0, .int .u8 0, .int .u8 0, .int .u8 0, .int .u8 0, .int .u8 0, .int .u8 0, .int .u8 0, .int .u8 0, .int .u8 0, .int .u8 0, .int .u8 0] 86)) (w.heap.size + 2) (dsA zeroD) 86 := (Blk.new ((w.alloc (.cells rgVt 82)).alloc (.cells #[v] 27)) #[.int .u8 0, .int .u8 0, .int .u8 0, .int .u8 0, .int .u8 0, .int .u8 0, .int .u8 0, .int .u8 0, .int .u8 0, .int .u8 0, .int .u8 0, .int .u8 0, .int .u8 0, .int .u8 0, .int .u8 0, .int .u8 0] 86 _ (by simp)).alloc (.cells #[.int .u8 0, .int .u8 0, .int .u8 0, .int .u8 0, .int .u8 0, .int .u8 0, .int .u8 0, .int .u8 0, .int .u8 0, .int .u8 0, .int .u8 0, .int .u8 0, .int .u8 0, .int .u8 0, .int .u8 0, .int .u8 0] 86)
  have kD : Blk ((((w.alloc (.cells rgVt 82)).alloc (.cells #[v] 27)).alloc (.cells #[.int .u8 0, .int .u8 0, .int .u8 0, .int .u8 0, .int .u8 0, .int .u8 0, .int .u8 0, .int .u8 0, .int .u8 0, .int .u8 0, .int .u8 0, .int .u8 0, .int .u8 0, .int .u8 0, .int .u8 0, .int .u8 0] 86)).alloc (.cells #[.int .u8 0, .int .u8 0, .int .u8 0, .int .u8 0, .int .u8 0, .int .u8 0, .int .u8 0, .int .u8 0, .int .u8 0, .int .u8 0, .int .u8 0, .int .u8 0, .int .u8 0, .int .u8 0, .int .u8 0, .int .u8 0] 86)) (w.heap.size + 3) (dsA zeroD) 86 := Blk.new (((w.alloc (.cells rgVt 82)).alloc (.cells #[v] 27)).alloc (.cells #[.int .u8 0, .int .u8 0, .int .u8 0, .int .u8 0, .int .u8 0, .int .u8 0, .int .u8 0, .int .u8 0, .int .u8 0, .int .u8 0, .int .u8 0, .int .u8 0, .int .u8 0, .int .u8 0, .int .u8 0, .int .u8 0] 86)) #[.int .u8 0, .int .u8 0, .int .u8 0, .int .u8 0, .int .u8 0, .int .u8 0, .int .u8 0, .int .u8 0, .int .u8 0, .int .u8 0, .int .u8 0, .int .u8 0, .int .u8 0, .int .u8 0, .int .u8 0, .int .u8 0] 86 _ (by simp)
  have g0 : Grew w ((((w.alloc (.cells rgVt 82)).alloc (.cells #[v] 27)).alloc (.cells #[.int .u8 0, .int .u8 0, .int .u8 0, .int .u8 0, .int .u8 0, .int .u8 0, .int .u8 0, .int .u8 0, .int .u8 0, .int .u8 0, .int .u8 0, .int .u8 0, .int .u8 0, .int .u8 0, .int .u8 0, .int .u8 0] 86)).alloc (.cells #[.int .u8 0, .int .u8 0, .int .u8 0, .int .u8 0, .int .u8 0, .int .u8 0, .int .u8 0, .int .u8 0, .int .u8 0, .int .u8 0, .int .u8 0, .int .u8 0, .int .u8 0, .int .u8 0, .int .u8 0, .int .u8 0] 86)) := ((((Grew.refl w).alloc (.cells rgVt 82)).alloc (.cells #[v] 27)).alloc (.cells #[.int .u8 0, .int .u8 0, .int .u8 0, .int .u8 0, .int .u8 0, .int .u8 0, .int .u8 0, .int .u8 0, .int .u8 0, .int .u8 0, .int .u8 0, .int .u8 0, .int .u8 0, .int .u8 0, .int .u8 0, .int .u8 0] 86)).alloc (.cells #[.int .u8 0, .int .u8 0, .int .u8 0, .int .u8 0, .int .u8 0, .int .u8 0, .int .u8 0, .int .u8 0, .int .u8 0, .int .u8 0, .int .u8 0, .int .u8 0, .int .u8 0, .int .u8 0, .int .u8 0, .int .u8 0] 86)
  replace hB := ((((hB).alloc (.cells rgVt 82)).alloc (.cells #[v] 27)).alloc (.cells #[.int .u8 0, .int .u8 0, .int .u8 0, .int .u8 0, .int .u8 0, .int .u8 0, .int .u8 0, .int .u8 0, .int .u8 0, .int .u8 0, .int .u8 0, .int .u8 0, .int .u8 0, .int .u8 0, .int .u8 0, .int .u8 0] 86)).alloc (.cells #[.int .u8 0, .int .u8 0, .int .u8 0, .int .u8 0, .int .u8 0, .int .u8 0, .int .u8 0, .int .u8 0, .int .u8 0, .int .u8 0, .int .u8 0, .int .u8 0, .int .u8 0, .int .u8 0, .int .u8 0, .int .u8 0] 86)
  generalize ((((w.alloc (.cells rgVt 82)).alloc (.cells #[v] 27)).alloc (.cells #[.int .u8 0, .int .u8 0, .int .u8 0, .int .u8 0, .int .u8 0, .int .u8 0, .int .u8 0, .int .u8 0, .int .u8 0, .int .u8 0, .int .u8 0, .int .u8 0, .int .u8 0, .int .u8 0, .int .u8 0, .int .u8 0] 86)).alloc (.cells #[.int .u8 0, .int .u8 0, .int .u8 0, .int .u8 0, .int .u8 0, .int .u8 0, .int .u8 0, .int .u8 0, .int .u8 0, .int .u8 0, .int .u8 0, .int .u8 0, .int .u8 0, .int .u8 0, .int .u8 0, .int .u8 0] 86)) = w0 at *
  have lG : w.heap.size ≤ w.heap.size := by omega
  have lM : w.heap.size ≤ (w.heap.size + 1) := by omega
  have lR : w.heap.size ≤ (w.heap.size + 2) := by omega
  have lD : w.heap.size ≤ (w.heap.size + 3) := by omega
  have nGM : w.heap.size ≠ (w.heap.size + 1) := by omega
  have nGR : w.heap.size ≠ (w.heap.size + 2) := by omega
  have nGD : w.heap.size ≠ (w.heap.size + 3) := by omega
  have nMG : (w.heap.size + 1) ≠ w.heap.size := by omega
  have nMR : (w.heap.size + 1) ≠ (w.heap.size + 2) := by omega
  have nMD : (w.heap.size + 1) ≠ (w.heap.size + 3) := by omega
  have nRG : (w.heap.size + 2) ≠ w.heap.size := by omega
  have nRM : (w.heap.size + 2) ≠ (w.heap.size + 1) := by omega
  have nRD : (w.heap.size + 2) ≠ (w.heap.size + 3) := by omega
  have nDG : (w.heap.size + 3) ≠ w.heap.size := by omega
  have nDM : (w.heap.size + 3) ≠ (w.heap.size + 1) := by omega
  have nDR : (w.heap.size + 3) ≠ (w.heap.size + 2) := by omega
  generalize (w.heap.size + 3) = D at *
  generalize (w.heap.size + 2) = R at *
  generalize (w.heap.size + 1) = M at *
  generalize hZ : w.heap.size = G at *
  have HZ := Lib.hid hZ
  clear hZ
  have LG : Hid (w.heap.size ≤ G) := Lib.hid (by rw [HZ.out]; exact lG)
  have LM : Hid (w.heap.size ≤ M) := Lib.hid (by rw [HZ.out]; exact lM)
  have LR : Hid (w.heap.size ≤ R) := Lib.hid (by rw [HZ.out]; exact lR)
  have LD : Hid (w.heap.size ≤ D) := Lib.hid (by rw [HZ.out]; exact lD)
  have hpG : p < G := hp
  replace HM := Lib.hid (HM.out.grew g0)
  refine wp_region_held_drew (S := fun w' => Grew w0 w') (by kernel_rfl) ((Grew.refl w0).drew1) (fun hHeld => ?_)
  replace hHeld : Grew w0 w0.drew := hHeld
  generalize w0.drew = wq0 at *
  refine wpAnyH_take (i := 0) (v := ?_) rfl (by kernel_rfl) (by kernel_rfl) (by kernel_rfl) (fun _ _ _ h => h) (Or.inl ⟨by rfl, ?_⟩) hHeld ?_
  rotate_left
  · intro wq hSw
    replace hSw : Grew w0 wq := hSw
    have y0 := (kM.grew hSw).cell 0
    go_simp
    try with_reducible rfl
  try simp only [List.getElem_toArray, List.getElem_cons_succ, List.getElem_cons_zero, Act.put, List.setIfInBounds_toArray, List.set_cons_zero, List.set_cons_succ]
  refine wpAnyH_take (i := 1) (v := ?_) rfl (by kernel_rfl) (by kernel_rfl) (by kernel_rfl) (fun _ _ _ h => h) (Or.inl ⟨by rfl, ?_⟩) hHeld ?_
  rotate_left
  · intro wq hSw
    replace hSw : Grew w0 wq := hSw
    go_simp
    try with_reducible rfl
  try simp only [List.getElem_toArray, List.getElem_cons_succ, List.getElem_cons_zero, Act.put, List.setIfInBounds_toArray, List.set_cons_zero, List.set_cons_succ]
  refine wpAnyH_take (i := 2) (v := ?_) rfl (by kernel_rfl) (by kernel_rfl) (by kernel_rfl) (fun _ _ _ h => h) (Or.inl ⟨by rfl, ?_⟩) hHeld ?_
  rotate_left
  · intro wq hSw
    replace hSw : Grew w0 wq := hSw
    have y0 : wq.cell? ⟨G, 0, none⟩ = some (.int .i64 3) := (kG.grew hSw).cell 0
    have y1 : wq.cell? ⟨G, 1, none⟩ = some (.int .i64 4) := (kG.grew hSw).cell 1
    have y2 : wq.cell? ⟨G, 2, none⟩ = some (.int .i64 5) := (kG.grew hSw).cell 2
    have y3 : wq.cell? ⟨G, 3, none⟩ = some (.int .i64 6) := (kG.grew hSw).cell 3
    have y4 : wq.cell? ⟨G, 4, none⟩ = some (.int .u32 1) := (kG.grew hSw).cell 4
    go_simp
    try with_reducible rfl
  try simp only [List.getElem_toArray, List.getElem_cons_succ, List.getElem_cons_zero, Act.put, List.setIfInBounds_toArray, List.set_cons_zero, List.set_cons_succ]
  refine wpAnyH_ready (rs := [3]) (by kernel_rfl) (by simp) ?_
  refine AllReadyH.cons rfl (fun K hK => ?_) AllReadyH.nil
  go_simp
  refine Calls.mono (hPl.out _ (hB.grew hHeld)) ?_
  rintro e w3 ⟨rfl, g3⟩
  refine hK.out _ _ (hHeld.trans g3) (fun hHeld => ?_)
  clear hK K
  try simp only [List.getElem_toArray, List.getElem_cons_succ, List.getElem_cons_zero, Act.put, List.setIfInBounds_toArray, List.set_cons_zero, List.set_cons_succ]
  refine wpAnyH_ready (rs := [4]) (by kernel_rfl) (by simp) ?_
  refine AllReadyH.cons rfl (fun K hK => ?_) AllReadyH.nil
  go_simp
  refine Calls.mono (hBy.out _ (HM.out.grew hHeld)) ?_
  rintro e w4 ⟨u, rfl, hu, g4⟩
  have HU := Lib.hid hu
  clear hu
  refine hK.out _ _ (hHeld.trans g4) (fun hHeld => ?_)
  clear hK K
  try simp only [List.getElem_toArray, List.getElem_cons_succ, List.getElem_cons_zero, Act.put, List.setIfInBounds_toArray, List.set_cons_zero, List.set_cons_succ]
  refine wpAnyH_take (i := 5) (v := ?_) rfl (by kernel_rfl) (by kernel_rfl) (by kernel_rfl) (fun _ _ _ h => h) (Or.inl ⟨by rfl, ?_⟩) hHeld ?_
  rotate_left
  · intro wq hSw
    replace hSw : Grew w0 wq := hSw
    go_simp
    try with_reducible rfl
  try simp only [List.getElem_toArray, List.getElem_cons_succ, List.getElem_cons_zero, Act.put, List.setIfInBounds_toArray, List.set_cons_zero, List.set_cons_succ]
  refine wpAnyH_take (i := 6) (v := ?_) rfl (by kernel_rfl) (by kernel_rfl) (by kernel_rfl) (fun _ _ _ h => h) (Or.inl ⟨by rfl, ?_⟩) hHeld ?_
  rotate_left
  · intro wq hSw
    replace hSw : Grew w0 wq := hSw
    go_simp
    try with_reducible rfl
  try simp only [List.getElem_toArray, List.getElem_cons_succ, List.getElem_cons_zero, Act.put, List.setIfInBounds_toArray, List.set_cons_zero, List.set_cons_succ]
  refine wpAnyH_take (i := 7) (v := ?_) rfl (by kernel_rfl) (by kernel_rfl) (by kernel_rfl) (fun _ _ _ h => h) (Or.inl ⟨by rfl, ?_⟩) hHeld ?_
  rotate_left
  · intro wq hSw
    replace hSw : Grew w0 wq := hSw
    go_simp
    try with_reducible rfl
  try simp only [List.getElem_toArray, List.getElem_cons_succ, List.getElem_cons_zero, Act.put, List.setIfInBounds_toArray, List.set_cons_zero, List.set_cons_succ]
  refine wpAnyH_take (i := 8) (v := ?_) rfl (by kernel_rfl) (by kernel_rfl) (by kernel_rfl) (fun _ _ _ h => h) (Or.inl ⟨by rfl, ?_⟩) hHeld ?_
  rotate_left
  · intro wq hSw
    replace hSw : Grew w0 wq := hSw
    go_simp
    try with_reducible rfl
  try simp only [List.getElem_toArray, List.getElem_cons_succ, List.getElem_cons_zero, Act.put, List.setIfInBounds_toArray, List.set_cons_zero, List.set_cons_succ]
  refine wpAnyH_take (i := 9) (v := ?_) rfl (by kernel_rfl) (by kernel_rfl) (by kernel_rfl) (fun _ _ _ h => h) (Or.inl ⟨by rfl, ?_⟩) hHeld ?_
  rotate_left
  · intro wq hSw
    replace hSw : Grew w0 wq := hSw
    go_simp
    try with_reducible rfl
  try simp only [List.getElem_toArray, List.getElem_cons_succ, List.getElem_cons_zero, Act.put, List.setIfInBounds_toArray, List.set_cons_zero, List.set_cons_succ]
  refine wpAnyH_done (by kernel_rfl) ?_ _
  try simp only [List.getElem_toArray, List.getElem_cons_succ, List.getElem_cons_zero, Act.put, List.setIfInBounds_toArray, List.set_cons_zero, List.set_cons_succ]
  have hB1 := hB.grew hHeld
  have kR1 := kR.grew hHeld
  have kD1 := kD.grew hHeld
  have kG1 := kG.grew hHeld
  have g1 := g0.trans hHeld
  have lt1 := kR1.lt
  have lt2 := kD1.lt
  clear hB kR kD kG kM g0 hHeld
  go_upto_region 7 with fail
  go_wp2_with (first | (refine copy_ds rfl (.tmp 33) (.tmp 34) rfl kD1 rfl HU.out h16.out (by rfl) (by rfl) ?_; intro w5 kD2 o5; have kR2 := kR1.only o5 nRD; have hB2 := hB1.only o5 (by omega)) | (refine ld_ds rfl (.tmp 8) rfl _ rfl h16.out kD2 (by rfl) ?_) | (refine st_ds rfl (.tmp 6) (.tmp 36) rfl rfl zs h16.out kR2 rfl (by rfl) (by rfl) ?_; intro w6 kR3 o6))
  have tz : Trn p w w6 := ((Trn.of_grew g1).only o5 LD.out).only o6 LR.out
  have hB3 := hB2.only o6 (by omega)
  exact bodyPost_ret (v := .tuple #[.agg (dsA zs), .bool true]) (results_ds (p := 6) (q := 7) Try.results56 _ _ R h16.out kR3 rfl) rfl ⟨rfl, hB3, tz⟩
set_option maxHeartbeats 2000000 in
theorem next_t_no {c : Nat → Int} {p : Nat} {w : World} {v : Value} {xs : List Int} (hB : Blk w p (rgA c) 80) (hM : Buf w v xs) (hl : xs.length ≤ 140737488355328) (h0 : 0 ≤ c 3) (h1 : c 3 < 4294967296) (h2 : 0 ≤ c 5) (h3 : c 5 < 64) (h4 : 0 ≤ c 0) (h5 : c 0 < 8) (h6 : bitB 1 (c 0) = true) (h7 : 0 ≤ c 12) (h8 : c 12 ≤ 2147483648) (h9 : 0 ≤ c 1) (hA : c 1 < 16) (hin : insideV xs.length (c 3 + 16 * c 5) 16 = false) :
    Calls Try.prog 56 #[.pointer (some ⟨p, 0, none⟩), .agg (rgVt), .agg #[v]] w fun e w' => e = .returned (.tuple #[.agg (dsA zeroD), .bool false]) ∧ Blk w' p (rgA (broket c)) 80 ∧ Trn p w w' := by
  have hPl := Lib.hid (fun (w : World) (h : Blk w p (rgA c) 80) => place_t h h0 h1 h2 h3)
  have hBy := Lib.hid (fun (w : World) (h : Buf w v xs) => bytes_c (c 3 + 16 * c 5) 16 (by omega) (by omega) (by decide) (by decide) w h hl)
  rw [hin] at hBy
  have hv := andn_1 h4 h5 h6
  have hF := Lib.hid (fun (w : World) (h : Blk w p (rgA (upd c 0 (c 0 - 1))) 80) => fail_c h (by rw [upd_ne _ _ (by decide)]; exact h7) (by rw [upd_ne _ _ (by decide)]; exact h8) (by rw [upd_ne _ _ (by decide)]; exact h9) (by rw [upd_ne _ _ (by decide)]; exact hA))
  clear h4 h5 h6 h7 h8 h9 hA
  generalize c 3 + 16 * c 5 = at0 at *
  have HM := Lib.hid hM
  have hp := hB.lt
  clear hin hM hl h0 h1 h2 h3
  go_enter Try.func56, Try.ntmps56
  go_upto_region 2 with fail
  have kG : Blk ((((w.alloc (.cells rgVt 82)).alloc (.cells #[v] 27)).alloc (.cells #[.int .u8 0, .int .u8 0, .int .u8 0, .int .u8 0, .int .u8 0, .int .u8 0, .int .u8 0, .int .u8 0, .int .u8 0, .int .u8 0, .int .u8 0, .int .u8 0, .int .u8 0, .int .u8 0, .int .u8 0, .int .u8 0] 86)).alloc (.cells #[.int .u8 0, .int .u8 0, .int .u8 0, .int .u8 0, .int .u8 0, .int .u8 0, .int .u8 0, .int .u8 0, .int .u8 0, .int .u8 0, .int .u8 0, .int .u8 0, .int .u8 0, .int .u8 0, .int .u8 0, .int .u8 0] 86)) w.heap.size rgVt 82 := (((Blk.new w rgVt 82 _ rfl).alloc (.cells #[v] 27)).alloc (.cells #[.int .u8 0, .int .u8 0, .int .u8 0, .int .u8 0, .int .u8 0, .int .u8 0, .int .u8 0, .int .u8 0, .int .u8 0, .int .u8 0, .int .u8 0, .int .u8 0, .int .u8 0, .int .u8 0, .int .u8 0, .int .u8 0] 86)).alloc (.cells #[.int .u8 0, .int .u8 0, .int .u8 0, .int .u8 0, .int .u8 0, .int .u8 0, .int .u8 0, .int .u8 0, .int .u8 0, .int .u8 0, .int .u8 0, .int .u8 0, .int .u8 0, .int .u8 0, .int .u8 0, .int .u8 0] 86)
  have kM : Blk ((((w.alloc (.cells rgVt 82)).alloc (.cells #[v] 27)).alloc (.cells #[.int .u8 0, .int .u8 0, .int .u8 0, .int .u8 0, .int .u8 0, .int .u8 0, .int .u8 0, .int .u8 0, .int .u8 0, .int .u8 0, .int .u8 0, .int .u8 0, .int .u8 0, .int .u8 0, .int .u8 0, .int .u8 0] 86)).alloc (.cells #[.int .u8 0, .int .u8 0, .int .u8 0, .int .u8 0, .int .u8 0, .int .u8 0, .int .u8 0, .int .u8 0, .int .u8 0, .int .u8 0, .int .u8 0, .int .u8 0, .int .u8 0, .int .u8 0, .int .u8 0, .int .u8 0] 86)) (w.heap.size + 1) #[v] 27 := ((Blk.new (w.alloc (.cells rgVt 82)) #[v] 27 _ (by simp)).alloc (.cells #[.int .u8 0, .int .u8 0, .int .u8 0, .int .u8 0, .int .u8 0, .int .u8 0, .int .u8 0, .int .u8 0, .int .u8 0, .int .u8 0, .int .u8 0, .int .u8 0, .int .u8 0, .int .u8 0, .int .u8 0, .int .u8 0] 86)).alloc (.cells #[.int .u8 0, .int .u8 0, .int .u8 0, .int .u8 0, .int .u8 0, .int .u8 0, .int .u8 0, .int .u8 0, .int .u8 0, .int .u8 0, .int .u8 0, .int .u8 0, .int .u8 0, .int .u8 0, .int .u8 0, .int .u8 0] 86)
  have kR : Blk ((((w.alloc (.cells rgVt 82)).alloc (.cells #[v] 27)).alloc (.cells #[.int .u8 0, .int .u8 0, .int .u8 0, .int .u8 0, .int .u8 0, .int .u8 0, .int .u8 0, .int .u8 0, .int .u8 0, .int .u8 0, .int .u8 0, .int .u8 0, .int .u8 0, .int .u8 0, .int .u8 0, .int .u8 0] 86)).alloc (.cells #[.int .u8 0, .int .u8 0, .int .u8 0, .int .u8 0, .int .u8 0, .int .u8 0, .int .u8 0, .int .u8 0, .int .u8 0, .int .u8 0, .int .u8 0, .int .u8 0, .int .u8 0, .int .u8 0, .int .u8 0, .int .u8 0] 86)) (w.heap.size + 2) (dsA zeroD) 86 := (Blk.new ((w.alloc (.cells rgVt 82)).alloc (.cells #[v] 27)) #[.int .u8 0, .int .u8 0, .int .u8 0, .int .u8 0, .int .u8 0, .int .u8 0, .int .u8 0, .int .u8 0, .int .u8 0, .int .u8 0, .int .u8 0, .int .u8 0, .int .u8 0, .int .u8 0, .int .u8 0, .int .u8 0] 86 _ (by simp)).alloc (.cells #[.int .u8 0, .int .u8 0, .int .u8 0, .int .u8 0, .int .u8 0, .int .u8 0, .int .u8 0, .int .u8 0, .int .u8 0, .int .u8 0, .int .u8 0, .int .u8 0, .int .u8 0, .int .u8 0, .int .u8 0, .int .u8 0] 86)
  have kD : Blk ((((w.alloc (.cells rgVt 82)).alloc (.cells #[v] 27)).alloc (.cells #[.int .u8 0, .int .u8 0, .int .u8 0, .int .u8 0, .int .u8 0, .int .u8 0, .int .u8 0, .int .u8 0, .int .u8 0, .int .u8 0, .int .u8 0, .int .u8 0, .int .u8 0, .int .u8 0, .int .u8 0, .int .u8 0] 86)).alloc (.cells #[.int .u8 0, .int .u8 0, .int .u8 0, .int .u8 0, .int .u8 0, .int .u8 0, .int .u8 0, .int .u8 0, .int .u8 0, .int .u8 0, .int .u8 0, .int .u8 0, .int .u8 0, .int .u8 0, .int .u8 0, .int .u8 0] 86)) (w.heap.size + 3) (dsA zeroD) 86 := Blk.new (((w.alloc (.cells rgVt 82)).alloc (.cells #[v] 27)).alloc (.cells #[.int .u8 0, .int .u8 0, .int .u8 0, .int .u8 0, .int .u8 0, .int .u8 0, .int .u8 0, .int .u8 0, .int .u8 0, .int .u8 0, .int .u8 0, .int .u8 0, .int .u8 0, .int .u8 0, .int .u8 0, .int .u8 0] 86)) #[.int .u8 0, .int .u8 0, .int .u8 0, .int .u8 0, .int .u8 0, .int .u8 0, .int .u8 0, .int .u8 0, .int .u8 0, .int .u8 0, .int .u8 0, .int .u8 0, .int .u8 0, .int .u8 0, .int .u8 0, .int .u8 0] 86 _ (by simp)
  have g0 : Grew w ((((w.alloc (.cells rgVt 82)).alloc (.cells #[v] 27)).alloc (.cells #[.int .u8 0, .int .u8 0, .int .u8 0, .int .u8 0, .int .u8 0, .int .u8 0, .int .u8 0, .int .u8 0, .int .u8 0, .int .u8 0, .int .u8 0, .int .u8 0, .int .u8 0, .int .u8 0, .int .u8 0, .int .u8 0] 86)).alloc (.cells #[.int .u8 0, .int .u8 0, .int .u8 0, .int .u8 0, .int .u8 0, .int .u8 0, .int .u8 0, .int .u8 0, .int .u8 0, .int .u8 0, .int .u8 0, .int .u8 0, .int .u8 0, .int .u8 0, .int .u8 0, .int .u8 0] 86)) := ((((Grew.refl w).alloc (.cells rgVt 82)).alloc (.cells #[v] 27)).alloc (.cells #[.int .u8 0, .int .u8 0, .int .u8 0, .int .u8 0, .int .u8 0, .int .u8 0, .int .u8 0, .int .u8 0, .int .u8 0, .int .u8 0, .int .u8 0, .int .u8 0, .int .u8 0, .int .u8 0, .int .u8 0, .int .u8 0] 86)).alloc (.cells #[.int .u8 0, .int .u8 0, .int .u8 0, .int .u8 0, .int .u8 0, .int .u8 0, .int .u8 0, .int .u8 0, .int .u8 0, .int .u8 0, .int .u8 0, .int .u8 0, .int .u8 0, .int .u8 0, .int .u8 0, .int .u8 0] 86)
  replace hB := ((((hB).alloc (.cells rgVt 82)).alloc (.cells #[v] 27)).alloc (.cells #[.int .u8 0, .int .u8 0, .int .u8 0, .int .u8 0, .int .u8 0, .int .u8 0, .int .u8 0, .int .u8 0, .int .u8 0, .int .u8 0, .int .u8 0, .int .u8 0, .int .u8 0, .int .u8 0, .int .u8 0, .int .u8 0] 86)).alloc (.cells #[.int .u8 0, .int .u8 0, .int .u8 0, .int .u8 0, .int .u8 0, .int .u8 0, .int .u8 0, .int .u8 0, .int .u8 0, .int .u8 0, .int .u8 0, .int .u8 0, .int .u8 0, .int .u8 0, .int .u8 0, .int .u8 0] 86)
  generalize ((((w.alloc (.cells rgVt 82)).alloc (.cells #[v] 27)).alloc (.cells #[.int .u8 0, .int .u8 0, .int .u8 0, .int .u8 0, .int .u8 0, .int .u8 0, .int .u8 0, .int .u8 0, .int .u8 0, .int .u8 0, .int .u8 0, .int .u8 0, .int .u8 0, .int .u8 0, .int .u8 0, .int .u8 0] 86)).alloc (.cells #[.int .u8 0, .int .u8 0, .int .u8 0, .int .u8 0, .int .u8 0, .int .u8 0, .int .u8 0, .int .u8 0, .int .u8 0, .int .u8 0, .int .u8 0, .int .u8 0, .int .u8 0, .int .u8 0, .int .u8 0, .int .u8 0] 86)) = w0 at *
  have lG : w.heap.size ≤ w.heap.size := by omega
  have lM : w.heap.size ≤ (w.heap.size + 1) := by omega
  have lR : w.heap.size ≤ (w.heap.size + 2) := by omega
  have lD : w.heap.size ≤ (w.heap.size + 3) := by omega
  have nGM : w.heap.size ≠ (w.heap.size + 1) := by omega
  have nGR : w.heap.size ≠ (w.heap.size + 2) := by omega
  have nGD : w.heap.size ≠ (w.heap.size + 3) := by omega
  have nMG : (w.heap.size + 1) ≠ w.heap.size := by omega
  have nMR : (w.heap.size + 1) ≠ (w.heap.size + 2) := by omega
  have nMD : (w.heap.size + 1) ≠ (w.heap.size + 3) := by omega
  have nRG : (w.heap.size + 2) ≠ w.heap.size := by omega
  have nRM : (w.heap.size + 2) ≠ (w.heap.size + 1) := by omega
  have nRD : (w.heap.size + 2) ≠ (w.heap.size + 3) := by omega
  have nDG : (w.heap.size + 3) ≠ w.heap.size := by omega
  have nDM : (w.heap.size + 3) ≠ (w.heap.size + 1) := by omega
  have nDR : (w.heap.size + 3) ≠ (w.heap.size + 2) := by omega
  generalize (w.heap.size + 3) = D at *
  generalize (w.heap.size + 2) = R at *
  generalize (w.heap.size + 1) = M at *
  generalize hZ : w.heap.size = G at *
  have HZ := Lib.hid hZ
  clear hZ
  have LG : Hid (w.heap.size ≤ G) := Lib.hid (by rw [HZ.out]; exact lG)
  have LM : Hid (w.heap.size ≤ M) := Lib.hid (by rw [HZ.out]; exact lM)
  have LR : Hid (w.heap.size ≤ R) := Lib.hid (by rw [HZ.out]; exact lR)
  have LD : Hid (w.heap.size ≤ D) := Lib.hid (by rw [HZ.out]; exact lD)
  have hpG : p < G := hp
  replace HM := Lib.hid (HM.out.grew g0)
  refine wp_region_held_drew (S := fun w' => Grew w0 w') (by kernel_rfl) ((Grew.refl w0).drew1) (fun hHeld => ?_)
  replace hHeld : Grew w0 w0.drew := hHeld
  generalize w0.drew = wq0 at *
  refine wpAnyH_take (i := 0) (v := ?_) rfl (by kernel_rfl) (by kernel_rfl) (by kernel_rfl) (fun _ _ _ h => h) (Or.inl ⟨by rfl, ?_⟩) hHeld ?_
  rotate_left
  · intro wq hSw
    replace hSw : Grew w0 wq := hSw
    have y0 := (kM.grew hSw).cell 0
    go_simp
    try with_reducible rfl
  try simp only [List.getElem_toArray, List.getElem_cons_succ, List.getElem_cons_zero, Act.put, List.setIfInBounds_toArray, List.set_cons_zero, List.set_cons_succ]
  refine wpAnyH_take (i := 1) (v := ?_) rfl (by kernel_rfl) (by kernel_rfl) (by kernel_rfl) (fun _ _ _ h => h) (Or.inl ⟨by rfl, ?_⟩) hHeld ?_
  rotate_left
  · intro wq hSw
    replace hSw : Grew w0 wq := hSw
    go_simp
    try with_reducible rfl
  try simp only [List.getElem_toArray, List.getElem_cons_succ, List.getElem_cons_zero, Act.put, List.setIfInBounds_toArray, List.set_cons_zero, List.set_cons_succ]
  refine wpAnyH_take (i := 2) (v := ?_) rfl (by kernel_rfl) (by kernel_rfl) (by kernel_rfl) (fun _ _ _ h => h) (Or.inl ⟨by rfl, ?_⟩) hHeld ?_
  rotate_left
  · intro wq hSw
    replace hSw : Grew w0 wq := hSw
    have y0 : wq.cell? ⟨G, 0, none⟩ = some (.int .i64 3) := (kG.grew hSw).cell 0
    have y1 : wq.cell? ⟨G, 1, none⟩ = some (.int .i64 4) := (kG.grew hSw).cell 1
    have y2 : wq.cell? ⟨G, 2, none⟩ = some (.int .i64 5) := (kG.grew hSw).cell 2
    have y3 : wq.cell? ⟨G, 3, none⟩ = some (.int .i64 6) := (kG.grew hSw).cell 3
    have y4 : wq.cell? ⟨G, 4, none⟩ = some (.int .u32 1) := (kG.grew hSw).cell 4
    go_simp
    try with_reducible rfl
  try simp only [List.getElem_toArray, List.getElem_cons_succ, List.getElem_cons_zero, Act.put, List.setIfInBounds_toArray, List.set_cons_zero, List.set_cons_succ]
  refine wpAnyH_ready (rs := [3]) (by kernel_rfl) (by simp) ?_
  refine AllReadyH.cons rfl (fun K hK => ?_) AllReadyH.nil
  go_simp
  refine Calls.mono (hPl.out _ (hB.grew hHeld)) ?_
  rintro e w3 ⟨rfl, g3⟩
  refine hK.out _ _ (hHeld.trans g3) (fun hHeld => ?_)
  clear hK K
  try simp only [List.getElem_toArray, List.getElem_cons_succ, List.getElem_cons_zero, Act.put, List.setIfInBounds_toArray, List.set_cons_zero, List.set_cons_succ]
  refine wpAnyH_ready (rs := [4]) (by kernel_rfl) (by simp) ?_
  refine AllReadyH.cons rfl (fun K hK => ?_) AllReadyH.nil
  go_simp
  refine Calls.mono (hBy.out _ (HM.out.grew hHeld)) ?_
  rintro e w4 ⟨u, rfl, hu, g4⟩
  have HU := Lib.hid hu
  clear hu
  refine hK.out _ _ (hHeld.trans g4) (fun hHeld => ?_)
  clear hK K
  try simp only [List.getElem_toArray, List.getElem_cons_succ, List.getElem_cons_zero, Act.put, List.setIfInBounds_toArray, List.set_cons_zero, List.set_cons_succ]
  refine wpAnyH_take (i := 5) (v := ?_) rfl (by kernel_rfl) (by kernel_rfl) (by kernel_rfl) (fun _ _ _ h => h) (Or.inl ⟨by rfl, ?_⟩) hHeld ?_
  rotate_left
  · intro wq hSw
    replace hSw : Grew w0 wq := hSw
    go_simp
    try with_reducible rfl
  try simp only [List.getElem_toArray, List.getElem_cons_succ, List.getElem_cons_zero, Act.put, List.setIfInBounds_toArray, List.set_cons_zero, List.set_cons_succ]
  refine wpAnyH_take (i := 6) (v := ?_) rfl (by kernel_rfl) (by kernel_rfl) (by kernel_rfl) (fun _ _ _ h => h) (Or.inl ⟨by rfl, ?_⟩) hHeld ?_
  rotate_left
  · intro wq hSw
    replace hSw : Grew w0 wq := hSw
    go_simp
    try with_reducible rfl
  try simp only [List.getElem_toArray, List.getElem_cons_succ, List.getElem_cons_zero, Act.put, List.setIfInBounds_toArray, List.set_cons_zero, List.set_cons_succ]
  refine wpAnyH_take (i := 7) (v := ?_) rfl (by kernel_rfl) (by kernel_rfl) (by kernel_rfl) (fun _ _ _ h => h) (Or.inl ⟨by rfl, ?_⟩) hHeld ?_
  rotate_left
  · intro wq hSw
    replace hSw : Grew w0 wq := hSw
    go_simp
    try with_reducible rfl
  try simp only [List.getElem_toArray, List.getElem_cons_succ, List.getElem_cons_zero, Act.put, List.setIfInBounds_toArray, List.set_cons_zero, List.set_cons_succ]
  refine wpAnyH_take (i := 8) (v := ?_) rfl (by kernel_rfl) (by kernel_rfl) (by kernel_rfl) (fun _ _ _ h => h) (Or.inl ⟨by rfl, ?_⟩) hHeld ?_
  rotate_left
  · intro wq hSw
    replace hSw : Grew w0 wq := hSw
    go_simp
    try with_reducible rfl
  try simp only [List.getElem_toArray, List.getElem_cons_succ, List.getElem_cons_zero, Act.put, List.setIfInBounds_toArray, List.set_cons_zero, List.set_cons_succ]
  refine wpAnyH_take (i := 9) (v := ?_) rfl (by kernel_rfl) (by kernel_rfl) (by kernel_rfl) (fun _ _ _ h => h) (Or.inl ⟨by rfl, ?_⟩) hHeld ?_
  rotate_left
  · intro wq hSw
    replace hSw : Grew w0 wq := hSw
    go_simp
    try with_reducible rfl
  try simp only [List.getElem_toArray, List.getElem_cons_succ, List.getElem_cons_zero, Act.put, List.setIfInBounds_toArray, List.set_cons_zero, List.set_cons_succ]
  refine wpAnyH_done (by kernel_rfl) ?_ _
  try simp only [List.getElem_toArray, List.getElem_cons_succ, List.getElem_cons_zero, Act.put, List.setIfInBounds_toArray, List.set_cons_zero, List.set_cons_succ]
  have hB1 := hB.grew hHeld
  have kR1 := kR.grew hHeld
  have kD1 := kD.grew hHeld
  have kG1 := kG.grew hHeld
  have g1 := g0.trans hHeld
  have lt1 := kR1.lt
  have lt2 := kD1.lt
  clear hB kR kD kG kM g0 hHeld
  go_upto_region 4 with fail
  generalize w4 = w5 at *
  have z0 := fun z : Over w5 => hB1.rgO 0 (by decide) z
  have z1 := fun z : Over w5 => kG1.overCell 4 (.int .u32 1) rfl z
  refine region_over_tail 9 (by kernel_rfl) (by kernel_rfl) ?_
  simp only [List.take_succ_cons, List.take_zero, List.drop_succ_cons, List.drop_zero]
  repeat (first | go_big_quiet_step (fail) | quiet_step (fail))
  refine wpQuiet_nil ?_
  intro z
  have hB2 := hB1.over z
  have kR2 := kR1.over z
  have kD2 := kD1.over z
  have g2 := g1.trans z.g
  clear z0 z1 hB1 kR1 kD1 kG1 g1
  generalize z.w = w6 at *
  have c0 := hB2.rgC 0 (by decide)
  have f0 := hB2.free 0
  go_upto_region 5 with fail
  have hB3 := hB2.rg (by decide : 0 < 15) (c 0 - 1)
  have o3 := Only.set w6 p 0 (.int .u32 (c 0 - 1))
  clear c0 f0 hB2
  generalize (w6.setCell ⟨p, 0, none⟩ (.int .u32 (c 0 - 1))) = w7 at *
  replace kR2 := kR2.only o3 (by omega)
  replace kD2 := kD2.only o3 (by omega)
  have t3 : Trn p w w7 := (Trn.of_grew g2).trans o3.trn
  clear o3 g2
  go_wp2_with fail
  refine (hF.out _ hB3).mono ?_
  rintro e w8 ⟨rfl, hB4, t4⟩
  have kR4 := kR2.trn t4 (by omega)
  have kD4 := kD2.trn t4 (by omega)
  go_wp2_with (first | (refine ld_ds rfl (.tmp 8) rfl _ rfl rfl kD4 (by rfl) ?_) | (refine st_ds rfl (.tmp 6) (.tmp 32) rfl rfl zeroD rfl kR4 rfl (by rfl) (by rfl) ?_; intro w9 kR5 o9))
  have tz : Trn p w w9 := (t3.trans t4).only o9 LR.out
  have hB5 := hB4.only o9 (by omega)
  exact bodyPost_ret (v := .tuple #[.agg (dsA zeroD), .bool false]) (results_ds (p := 6) (q := 7) Try.results56 _ _ R rfl kR5 rfl) rfl ⟨rfl, hB5, tz⟩
/-- What a broken ring makes. -/
def broker (c : Nat → Int) : Nat → Int := failC (upd c 0 (c 0 - 2))
set_option maxHeartbeats 2000000 in
theorem next_r_yes {c : Nat → Int} {p : Nat} {w : World} {v : Value} {xs : List Int} (hB : Blk w p (rgA c) 80) (hM : Buf w v xs) (hl : xs.length ≤ 140737488355328) (h0 : 0 ≤ c 7) (h1 : c 7 < 4294967296) (h2 : 0 ≤ c 9) (h3 : c 9 < 64) (hin : insideV xs.length (c 7 + 16 * c 9) 16 = true) :
    Calls Try.prog 56 #[.pointer (some ⟨p, 0, none⟩), .agg (rgVr), .agg #[v]] w fun e w' => e = .returned (.tuple #[.agg (dsA (bytesV xs (c 7 + 16 * c 9) 16)), .bool true]) ∧ Blk w' p (rgA c) 80 ∧ Trn p w w' := by
  have hPl := Lib.hid (fun (w : World) (h : Blk w p (rgA c) 80) => place_r h h0 h1 h2 h3)
  have hBy := Lib.hid (fun (w : World) (h : Buf w v xs) => bytes_c (c 7 + 16 * c 9) 16 (by omega) (by omega) (by decide) (by decide) w h hl)
  rw [hin] at hBy
  have h16 := Lib.hid (bytesV_16 hin)
  generalize bytesV xs (c 7 + 16 * c 9) 16 = zs at *
  generalize c 7 + 16 * c 9 = at0 at *
  have HM := Lib.hid hM
  have hp := hB.lt
  clear hin hM hl h0 h1 h2 h3
  go_enter Try.func56, Try.ntmps56
  go_upto_region 2 with fail
  have kG : Blk ((((w.alloc (.cells rgVr 82)).alloc (.cells #[v] 27)).alloc (.cells #[.int .u8 0, .int .u8 0, .int .u8 0, .int .u8 0, .int .u8 0, .int .u8 0, .int .u8 0, .int .u8 0, .int .u8 0, .int .u8 0, .int .u8 0, .int .u8 0, .int .u8 0, .int .u8 0, .int .u8 0, .int .u8 0] 86)).alloc (.cells #[.int .u8 0, .int .u8 0, .int .u8 0, .int .u8 0, .int .u8 0, .int .u8 0, .int .u8 0, .int .u8 0, .int .u8 0, .int .u8 0, .int .u8 0, .int .u8 0, .int .u8 0, .int .u8 0, .int .u8 0, .int .u8 0] 86)) w.heap.size rgVr 82 := (((Blk.new w rgVr 82 _ rfl).alloc (.cells #[v] 27)).alloc (.cells #[.int .u8 0, .int .u8 0, .int .u8 0, .int .u8 0, .int .u8 0, .int .u8 0, .int .u8 0, .int .u8 0, .int .u8 0, .int .u8 0, .int .u8 0, .int .u8 0, .int .u8 0, .int .u8 0, .int .u8 0, .int .u8 0] 86)).alloc (.cells #[.int .u8 0, .int .u8 0, .int .u8 0, .int .u8 0, .int .u8 0, .int .u8 0, .int .u8 0, .int .u8 0, .int .u8 0, .int .u8 0, .int .u8 0, .int .u8 0, .int .u8 0, .int .u8 0, .int .u8 0, .int .u8 0] 86)
  have kM : Blk ((((w.alloc (.cells rgVr 82)).alloc (.cells #[v] 27)).alloc (.cells #[.int .u8 0, .int .u8 0, .int .u8 0, .int .u8 0, .int .u8 0, .int .u8 0, .int .u8 0, .int .u8 0, .int .u8 0, .int .u8 0, .int .u8 0, .int .u8 0, .int .u8 0, .int .u8 0, .int .u8 0, .int .u8 0] 86)).alloc (.cells #[.int .u8 0, .int .u8 0, .int .u8 0, .int .u8 0, .int .u8 0, .int .u8 0, .int .u8 0, .int .u8 0, .int .u8 0, .int .u8 0, .int .u8 0, .int .u8 0, .int .u8 0, .int .u8 0, .int .u8 0, .int .u8 0] 86)) (w.heap.size + 1) #[v] 27 := ((Blk.new (w.alloc (.cells rgVr 82)) #[v] 27 _ (by simp)).alloc (.cells #[.int .u8 0, .int .u8 0, .int .u8 0, .int .u8 0, .int .u8 0, .int .u8 0, .int .u8 0, .int .u8 0, .int .u8 0, .int .u8 0, .int .u8 0, .int .u8 0, .int .u8 0, .int .u8 0, .int .u8 0, .int .u8 0] 86)).alloc (.cells #[.int .u8 0, .int .u8 0, .int .u8 0, .int .u8 0, .int .u8 0, .int .u8 0, .int .u8 0, .int .u8 0, .int .u8 0, .int .u8 0, .int .u8 0, .int .u8 0, .int .u8 0, .int .u8 0, .int .u8 0, .int .u8 0] 86)
  have kR : Blk ((((w.alloc (.cells rgVr 82)).alloc (.cells #[v] 27)).alloc (.cells #[.int .u8 0, .int .u8 0, .int .u8 0, .int .u8 0, .int .u8 0, .int .u8 0, .int .u8 0, .int .u8 0, .int .u8 0, .int .u8 0, .int .u8 0, .int .u8 0, .int .u8 0, .int .u8 0, .int .u8 0, .int .u8 0] 86)).alloc (.cells #[.int .u8 0, .int .u8 0, .int .u8 0, .int .u8 0, .int .u8 0, .int .u8 0, .int .u8 0, .int .u8 0, .int .u8 0, .int .u8 0, .int .u8 0, .int .u8 0, .int .u8 0, .int .u8 0, .int .u8 0, .int .u8 0] 86)) (w.heap.size + 2) (dsA zeroD) 86 := (Blk.new ((w.alloc (.cells rgVr 82)).alloc (.cells #[v] 27)) #[.int .u8 0, .int .u8 0, .int .u8 0, .int .u8 0, .int .u8 0, .int .u8 0, .int .u8 0, .int .u8 0, .int .u8 0, .int .u8 0, .int .u8 0, .int .u8 0, .int .u8 0, .int .u8 0, .int .u8 0, .int .u8 0] 86 _ (by simp)).alloc (.cells #[.int .u8 0, .int .u8 0, .int .u8 0, .int .u8 0, .int .u8 0, .int .u8 0, .int .u8 0, .int .u8 0, .int .u8 0, .int .u8 0, .int .u8 0, .int .u8 0, .int .u8 0, .int .u8 0, .int .u8 0, .int .u8 0] 86)
  have kD : Blk ((((w.alloc (.cells rgVr 82)).alloc (.cells #[v] 27)).alloc (.cells #[.int .u8 0, .int .u8 0, .int .u8 0, .int .u8 0, .int .u8 0, .int .u8 0, .int .u8 0, .int .u8 0, .int .u8 0, .int .u8 0, .int .u8 0, .int .u8 0, .int .u8 0, .int .u8 0, .int .u8 0, .int .u8 0] 86)).alloc (.cells #[.int .u8 0, .int .u8 0, .int .u8 0, .int .u8 0, .int .u8 0, .int .u8 0, .int .u8 0, .int .u8 0, .int .u8 0, .int .u8 0, .int .u8 0, .int .u8 0, .int .u8 0, .int .u8 0, .int .u8 0, .int .u8 0] 86)) (w.heap.size + 3) (dsA zeroD) 86 := Blk.new (((w.alloc (.cells rgVr 82)).alloc (.cells #[v] 27)).alloc (.cells #[.int .u8 0, .int .u8 0, .int .u8 0, .int .u8 0, .int .u8 0, .int .u8 0, .int .u8 0, .int .u8 0, .int .u8 0, .int .u8 0, .int .u8 0, .int .u8 0, .int .u8 0, .int .u8 0, .int .u8 0, .int .u8 0] 86)) #[.int .u8 0, .int .u8 0, .int .u8 0, .int .u8 0, .int .u8 0, .int .u8 0, .int .u8 0, .int .u8 0, .int .u8 0, .int .u8 0, .int .u8 0, .int .u8 0, .int .u8 0, .int .u8 0, .int .u8 0, .int .u8 0] 86 _ (by simp)
  have g0 : Grew w ((((w.alloc (.cells rgVr 82)).alloc (.cells #[v] 27)).alloc (.cells #[.int .u8 0, .int .u8 0, .int .u8 0, .int .u8 0, .int .u8 0, .int .u8 0, .int .u8 0, .int .u8 0, .int .u8 0, .int .u8 0, .int .u8 0, .int .u8 0, .int .u8 0, .int .u8 0, .int .u8 0, .int .u8 0] 86)).alloc (.cells #[.int .u8 0, .int .u8 0, .int .u8 0, .int .u8 0, .int .u8 0, .int .u8 0, .int .u8 0, .int .u8 0, .int .u8 0, .int .u8 0, .int .u8 0, .int .u8 0, .int .u8 0, .int .u8 0, .int .u8 0, .int .u8 0] 86)) := ((((Grew.refl w).alloc (.cells rgVr 82)).alloc (.cells #[v] 27)).alloc (.cells #[.int .u8 0, .int .u8 0, .int .u8 0, .int .u8 0, .int .u8 0, .int .u8 0, .int .u8 0, .int .u8 0, .int .u8 0, .int .u8 0, .int .u8 0, .int .u8 0, .int .u8 0, .int .u8 0, .int .u8 0, .int .u8 0] 86)).alloc (.cells #[.int .u8 0, .int .u8 0, .int .u8 0, .int .u8 0, .int .u8 0, .int .u8 0, .int .u8 0, .int .u8 0, .int .u8 0, .int .u8 0, .int .u8 0, .int .u8 0, .int .u8 0, .int .u8 0, .int .u8 0, .int .u8 0] 86)
  replace hB := ((((hB).alloc (.cells rgVr 82)).alloc (.cells #[v] 27)).alloc (.cells #[.int .u8 0, .int .u8 0, .int .u8 0, .int .u8 0, .int .u8 0, .int .u8 0, .int .u8 0, .int .u8 0, .int .u8 0, .int .u8 0, .int .u8 0, .int .u8 0, .int .u8 0, .int .u8 0, .int .u8 0, .int .u8 0] 86)).alloc (.cells #[.int .u8 0, .int .u8 0, .int .u8 0, .int .u8 0, .int .u8 0, .int .u8 0, .int .u8 0, .int .u8 0, .int .u8 0, .int .u8 0, .int .u8 0, .int .u8 0, .int .u8 0, .int .u8 0, .int .u8 0, .int .u8 0] 86)
  generalize ((((w.alloc (.cells rgVr 82)).alloc (.cells #[v] 27)).alloc (.cells #[.int .u8 0, .int .u8 0, .int .u8 0, .int .u8 0, .int .u8 0, .int .u8 0, .int .u8 0, .int .u8 0, .int .u8 0, .int .u8 0, .int .u8 0, .int .u8 0, .int .u8 0, .int .u8 0, .int .u8 0, .int .u8 0] 86)).alloc (.cells #[.int .u8 0, .int .u8 0, .int .u8 0, .int .u8 0, .int .u8 0, .int .u8 0, .int .u8 0, .int .u8 0, .int .u8 0, .int .u8 0, .int .u8 0, .int .u8 0, .int .u8 0, .int .u8 0, .int .u8 0, .int .u8 0] 86)) = w0 at *
  have lG : w.heap.size ≤ w.heap.size := by omega
  have lM : w.heap.size ≤ (w.heap.size + 1) := by omega
  have lR : w.heap.size ≤ (w.heap.size + 2) := by omega
  have lD : w.heap.size ≤ (w.heap.size + 3) := by omega
  have nGM : w.heap.size ≠ (w.heap.size + 1) := by omega
  have nGR : w.heap.size ≠ (w.heap.size + 2) := by omega
  have nGD : w.heap.size ≠ (w.heap.size + 3) := by omega
  have nMG : (w.heap.size + 1) ≠ w.heap.size := by omega
  have nMR : (w.heap.size + 1) ≠ (w.heap.size + 2) := by omega
  have nMD : (w.heap.size + 1) ≠ (w.heap.size + 3) := by omega
  have nRG : (w.heap.size + 2) ≠ w.heap.size := by omega
  have nRM : (w.heap.size + 2) ≠ (w.heap.size + 1) := by omega
  have nRD : (w.heap.size + 2) ≠ (w.heap.size + 3) := by omega
  have nDG : (w.heap.size + 3) ≠ w.heap.size := by omega
  have nDM : (w.heap.size + 3) ≠ (w.heap.size + 1) := by omega
  have nDR : (w.heap.size + 3) ≠ (w.heap.size + 2) := by omega
  generalize (w.heap.size + 3) = D at *
  generalize (w.heap.size + 2) = R at *
  generalize (w.heap.size + 1) = M at *
  generalize hZ : w.heap.size = G at *
  have HZ := Lib.hid hZ
  clear hZ
  have LG : Hid (w.heap.size ≤ G) := Lib.hid (by rw [HZ.out]; exact lG)
  have LM : Hid (w.heap.size ≤ M) := Lib.hid (by rw [HZ.out]; exact lM)
  have LR : Hid (w.heap.size ≤ R) := Lib.hid (by rw [HZ.out]; exact lR)
  have LD : Hid (w.heap.size ≤ D) := Lib.hid (by rw [HZ.out]; exact lD)
  have hpG : p < G := hp
  replace HM := Lib.hid (HM.out.grew g0)
  refine wp_region_held_drew (S := fun w' => Grew w0 w') (by kernel_rfl) ((Grew.refl w0).drew1) (fun hHeld => ?_)
  replace hHeld : Grew w0 w0.drew := hHeld
  generalize w0.drew = wq0 at *
  refine wpAnyH_take (i := 0) (v := ?_) rfl (by kernel_rfl) (by kernel_rfl) (by kernel_rfl) (fun _ _ _ h => h) (Or.inl ⟨by rfl, ?_⟩) hHeld ?_
  rotate_left
  · intro wq hSw
    replace hSw : Grew w0 wq := hSw
    have y0 := (kM.grew hSw).cell 0
    go_simp
    try with_reducible rfl
  try simp only [List.getElem_toArray, List.getElem_cons_succ, List.getElem_cons_zero, Act.put, List.setIfInBounds_toArray, List.set_cons_zero, List.set_cons_succ]
  refine wpAnyH_take (i := 1) (v := ?_) rfl (by kernel_rfl) (by kernel_rfl) (by kernel_rfl) (fun _ _ _ h => h) (Or.inl ⟨by rfl, ?_⟩) hHeld ?_
  rotate_left
  · intro wq hSw
    replace hSw : Grew w0 wq := hSw
    go_simp
    try with_reducible rfl
  try simp only [List.getElem_toArray, List.getElem_cons_succ, List.getElem_cons_zero, Act.put, List.setIfInBounds_toArray, List.set_cons_zero, List.set_cons_succ]
  refine wpAnyH_take (i := 2) (v := ?_) rfl (by kernel_rfl) (by kernel_rfl) (by kernel_rfl) (fun _ _ _ h => h) (Or.inl ⟨by rfl, ?_⟩) hHeld ?_
  rotate_left
  · intro wq hSw
    replace hSw : Grew w0 wq := hSw
    have y0 : wq.cell? ⟨G, 0, none⟩ = some (.int .i64 7) := (kG.grew hSw).cell 0
    have y1 : wq.cell? ⟨G, 1, none⟩ = some (.int .i64 8) := (kG.grew hSw).cell 1
    have y2 : wq.cell? ⟨G, 2, none⟩ = some (.int .i64 9) := (kG.grew hSw).cell 2
    have y3 : wq.cell? ⟨G, 3, none⟩ = some (.int .i64 10) := (kG.grew hSw).cell 3
    have y4 : wq.cell? ⟨G, 4, none⟩ = some (.int .u32 2) := (kG.grew hSw).cell 4
    go_simp
    try with_reducible rfl
  try simp only [List.getElem_toArray, List.getElem_cons_succ, List.getElem_cons_zero, Act.put, List.setIfInBounds_toArray, List.set_cons_zero, List.set_cons_succ]
  refine wpAnyH_ready (rs := [3]) (by kernel_rfl) (by simp) ?_
  refine AllReadyH.cons rfl (fun K hK => ?_) AllReadyH.nil
  go_simp
  refine Calls.mono (hPl.out _ (hB.grew hHeld)) ?_
  rintro e w3 ⟨rfl, g3⟩
  refine hK.out _ _ (hHeld.trans g3) (fun hHeld => ?_)
  clear hK K
  try simp only [List.getElem_toArray, List.getElem_cons_succ, List.getElem_cons_zero, Act.put, List.setIfInBounds_toArray, List.set_cons_zero, List.set_cons_succ]
  refine wpAnyH_ready (rs := [4]) (by kernel_rfl) (by simp) ?_
  refine AllReadyH.cons rfl (fun K hK => ?_) AllReadyH.nil
  go_simp
  refine Calls.mono (hBy.out _ (HM.out.grew hHeld)) ?_
  rintro e w4 ⟨u, rfl, hu, g4⟩
  have HU := Lib.hid hu
  clear hu
  refine hK.out _ _ (hHeld.trans g4) (fun hHeld => ?_)
  clear hK K
  try simp only [List.getElem_toArray, List.getElem_cons_succ, List.getElem_cons_zero, Act.put, List.setIfInBounds_toArray, List.set_cons_zero, List.set_cons_succ]
  refine wpAnyH_take (i := 5) (v := ?_) rfl (by kernel_rfl) (by kernel_rfl) (by kernel_rfl) (fun _ _ _ h => h) (Or.inl ⟨by rfl, ?_⟩) hHeld ?_
  rotate_left
  · intro wq hSw
    replace hSw : Grew w0 wq := hSw
    go_simp
    try with_reducible rfl
  try simp only [List.getElem_toArray, List.getElem_cons_succ, List.getElem_cons_zero, Act.put, List.setIfInBounds_toArray, List.set_cons_zero, List.set_cons_succ]
  refine wpAnyH_take (i := 6) (v := ?_) rfl (by kernel_rfl) (by kernel_rfl) (by kernel_rfl) (fun _ _ _ h => h) (Or.inl ⟨by rfl, ?_⟩) hHeld ?_
  rotate_left
  · intro wq hSw
    replace hSw : Grew w0 wq := hSw
    go_simp
    try with_reducible rfl
  try simp only [List.getElem_toArray, List.getElem_cons_succ, List.getElem_cons_zero, Act.put, List.setIfInBounds_toArray, List.set_cons_zero, List.set_cons_succ]
  refine wpAnyH_take (i := 7) (v := ?_) rfl (by kernel_rfl) (by kernel_rfl) (by kernel_rfl) (fun _ _ _ h => h) (Or.inl ⟨by rfl, ?_⟩) hHeld ?_
  rotate_left
  · intro wq hSw
    replace hSw : Grew w0 wq := hSw
    go_simp
    try with_reducible rfl
  try simp only [List.getElem_toArray, List.getElem_cons_succ, List.getElem_cons_zero, Act.put, List.setIfInBounds_toArray, List.set_cons_zero, List.set_cons_succ]
  refine wpAnyH_take (i := 8) (v := ?_) rfl (by kernel_rfl) (by kernel_rfl) (by kernel_rfl) (fun _ _ _ h => h) (Or.inl ⟨by rfl, ?_⟩) hHeld ?_
  rotate_left
  · intro wq hSw
    replace hSw : Grew w0 wq := hSw
    go_simp
    try with_reducible rfl
  try simp only [List.getElem_toArray, List.getElem_cons_succ, List.getElem_cons_zero, Act.put, List.setIfInBounds_toArray, List.set_cons_zero, List.set_cons_succ]
  refine wpAnyH_take (i := 9) (v := ?_) rfl (by kernel_rfl) (by kernel_rfl) (by kernel_rfl) (fun _ _ _ h => h) (Or.inl ⟨by rfl, ?_⟩) hHeld ?_
  rotate_left
  · intro wq hSw
    replace hSw : Grew w0 wq := hSw
    go_simp
    try with_reducible rfl
  try simp only [List.getElem_toArray, List.getElem_cons_succ, List.getElem_cons_zero, Act.put, List.setIfInBounds_toArray, List.set_cons_zero, List.set_cons_succ]
  refine wpAnyH_done (by kernel_rfl) ?_ _
  try simp only [List.getElem_toArray, List.getElem_cons_succ, List.getElem_cons_zero, Act.put, List.setIfInBounds_toArray, List.set_cons_zero, List.set_cons_succ]
  have hB1 := hB.grew hHeld
  have kR1 := kR.grew hHeld
  have kD1 := kD.grew hHeld
  have kG1 := kG.grew hHeld
  have g1 := g0.trans hHeld
  have lt1 := kR1.lt
  have lt2 := kD1.lt
  clear hB kR kD kG kM g0 hHeld
  go_upto_region 7 with fail
  go_wp2_with (first | (refine copy_ds rfl (.tmp 33) (.tmp 34) rfl kD1 rfl HU.out h16.out (by rfl) (by rfl) ?_; intro w5 kD2 o5; have kR2 := kR1.only o5 nRD; have hB2 := hB1.only o5 (by omega)) | (refine ld_ds rfl (.tmp 8) rfl _ rfl h16.out kD2 (by rfl) ?_) | (refine st_ds rfl (.tmp 6) (.tmp 36) rfl rfl zs h16.out kR2 rfl (by rfl) (by rfl) ?_; intro w6 kR3 o6))
  have tz : Trn p w w6 := ((Trn.of_grew g1).only o5 LD.out).only o6 LR.out
  have hB3 := hB2.only o6 (by omega)
  exact bodyPost_ret (v := .tuple #[.agg (dsA zs), .bool true]) (results_ds (p := 6) (q := 7) Try.results56 _ _ R h16.out kR3 rfl) rfl ⟨rfl, hB3, tz⟩
set_option maxHeartbeats 2000000 in
theorem next_r_no {c : Nat → Int} {p : Nat} {w : World} {v : Value} {xs : List Int} (hB : Blk w p (rgA c) 80) (hM : Buf w v xs) (hl : xs.length ≤ 140737488355328) (h0 : 0 ≤ c 7) (h1 : c 7 < 4294967296) (h2 : 0 ≤ c 9) (h3 : c 9 < 64) (h4 : 0 ≤ c 0) (h5 : c 0 < 8) (h6 : bitB 2 (c 0) = true) (h7 : 0 ≤ c 12) (h8 : c 12 ≤ 2147483648) (h9 : 0 ≤ c 1) (hA : c 1 < 16) (hin : insideV xs.length (c 7 + 16 * c 9) 16 = false) :
    Calls Try.prog 56 #[.pointer (some ⟨p, 0, none⟩), .agg (rgVr), .agg #[v]] w fun e w' => e = .returned (.tuple #[.agg (dsA zeroD), .bool false]) ∧ Blk w' p (rgA (broker c)) 80 ∧ Trn p w w' := by
  have hPl := Lib.hid (fun (w : World) (h : Blk w p (rgA c) 80) => place_r h h0 h1 h2 h3)
  have hBy := Lib.hid (fun (w : World) (h : Buf w v xs) => bytes_c (c 7 + 16 * c 9) 16 (by omega) (by omega) (by decide) (by decide) w h hl)
  rw [hin] at hBy
  have hv := andn_2 h4 h5 h6
  have hF := Lib.hid (fun (w : World) (h : Blk w p (rgA (upd c 0 (c 0 - 2))) 80) => fail_c h (by rw [upd_ne _ _ (by decide)]; exact h7) (by rw [upd_ne _ _ (by decide)]; exact h8) (by rw [upd_ne _ _ (by decide)]; exact h9) (by rw [upd_ne _ _ (by decide)]; exact hA))
  clear h4 h5 h6 h7 h8 h9 hA
  generalize c 7 + 16 * c 9 = at0 at *
  have HM := Lib.hid hM
  have hp := hB.lt
  clear hin hM hl h0 h1 h2 h3
  go_enter Try.func56, Try.ntmps56
  go_upto_region 2 with fail
  have kG : Blk ((((w.alloc (.cells rgVr 82)).alloc (.cells #[v] 27)).alloc (.cells #[.int .u8 0, .int .u8 0, .int .u8 0, .int .u8 0, .int .u8 0, .int .u8 0, .int .u8 0, .int .u8 0, .int .u8 0, .int .u8 0, .int .u8 0, .int .u8 0, .int .u8 0, .int .u8 0, .int .u8 0, .int .u8 0] 86)).alloc (.cells #[.int .u8 0, .int .u8 0, .int .u8 0, .int .u8 0, .int .u8 0, .int .u8 0, .int .u8 0, .int .u8 0, .int .u8 0, .int .u8 0, .int .u8 0, .int .u8 0, .int .u8 0, .int .u8 0, .int .u8 0, .int .u8 0] 86)) w.heap.size rgVr 82 := (((Blk.new w rgVr 82 _ rfl).alloc (.cells #[v] 27)).alloc (.cells #[.int .u8 0, .int .u8 0, .int .u8 0, .int .u8 0, .int .u8 0, .int .u8 0, .int .u8 0, .int .u8 0, .int .u8 0, .int .u8 0, .int .u8 0, .int .u8 0, .int .u8 0, .int .u8 0, .int .u8 0, .int .u8 0] 86)).alloc (.cells #[.int .u8 0, .int .u8 0, .int .u8 0, .int .u8 0, .int .u8 0, .int .u8 0, .int .u8 0, .int .u8 0, .int .u8 0, .int .u8 0, .int .u8 0, .int .u8 0, .int .u8 0, .int .u8 0, .int .u8 0, .int .u8 0] 86)
  have kM : Blk ((((w.alloc (.cells rgVr 82)).alloc (.cells #[v] 27)).alloc (.cells #[.int .u8 0, .int .u8 0, .int .u8 0, .int .u8 0, .int .u8 0, .int .u8 0, .int .u8 0, .int .u8 0, .int .u8 0, .int .u8 0, .int .u8 0, .int .u8 0, .int .u8 0, .int .u8 0, .int .u8 0, .int .u8 0] 86)).alloc (.cells #[.int .u8 0, .int .u8 0, .int .u8 0, .int .u8 0, .int .u8 0, .int .u8 0, .int .u8 0, .int .u8 0, .int .u8 0, .int .u8 0, .int .u8 0, .int .u8 0, .int .u8 0, .int .u8 0, .int .u8 0, .int .u8 0] 86)) (w.heap.size + 1) #[v] 27 := ((Blk.new (w.alloc (.cells rgVr 82)) #[v] 27 _ (by simp)).alloc (.cells #[.int .u8 0, .int .u8 0, .int .u8 0, .int .u8 0, .int .u8 0, .int .u8 0, .int .u8 0, .int .u8 0, .int .u8 0, .int .u8 0, .int .u8 0, .int .u8 0, .int .u8 0, .int .u8 0, .int .u8 0, .int .u8 0] 86)).alloc (.cells #[.int .u8 0, .int .u8 0, .int .u8 0, .int .u8 0, .int .u8 0, .int .u8 0, .int .u8 0, .int .u8 0, .int .u8 0, .int .u8 0, .int .u8 0, .int .u8 0, .int .u8 0, .int .u8 0, .int .u8 0, .int .u8 0] 86)
  have kR : Blk ((((w.alloc (.cells rgVr 82)).alloc (.cells #[v] 27)).alloc (.cells #[.int .u8 0, .int .u8 0, .int .u8 0, .int .u8 0, .int .u8 0, .int .u8 0, .int .u8 0, .int .u8 0, .int .u8 0, .int .u8 0, .int .u8 0, .int .u8 0, .int .u8 0, .int .u8 0, .int .u8 0, .int .u8 0] 86)).alloc (.cells #[.int .u8 0, .int .u8 0, .int .u8 0, .int .u8 0, .int .u8 0, .int .u8 0, .int .u8 0, .int .u8 0, .int .u8 0, .int .u8 0, .int .u8 0, .int .u8 0, .int .u8 0, .int .u8 0, .int .u8 0, .int .u8 0] 86)) (w.heap.size + 2) (dsA zeroD) 86 := (Blk.new ((w.alloc (.cells rgVr 82)).alloc (.cells #[v] 27)) #[.int .u8 0, .int .u8 0, .int .u8 0, .int .u8 0, .int .u8 0, .int .u8 0, .int .u8 0, .int .u8 0, .int .u8 0, .int .u8 0, .int .u8 0, .int .u8 0, .int .u8 0, .int .u8 0, .int .u8 0, .int .u8 0] 86 _ (by simp)).alloc (.cells #[.int .u8 0, .int .u8 0, .int .u8 0, .int .u8 0, .int .u8 0, .int .u8 0, .int .u8 0, .int .u8 0, .int .u8 0, .int .u8 0, .int .u8 0, .int .u8 0, .int .u8 0, .int .u8 0, .int .u8 0, .int .u8 0] 86)
  have kD : Blk ((((w.alloc (.cells rgVr 82)).alloc (.cells #[v] 27)).alloc (.cells #[.int .u8 0, .int .u8 0, .int .u8 0, .int .u8 0, .int .u8 0, .int .u8 0, .int .u8 0, .int .u8 0, .int .u8 0, .int .u8 0, .int .u8 0, .int .u8 0, .int .u8 0, .int .u8 0, .int .u8 0, .int .u8 0] 86)).alloc (.cells #[.int .u8 0, .int .u8 0, .int .u8 0, .int .u8 0, .int .u8 0, .int .u8 0, .int .u8 0, .int .u8 0, .int .u8 0, .int .u8 0, .int .u8 0, .int .u8 0, .int .u8 0, .int .u8 0, .int .u8 0, .int .u8 0] 86)) (w.heap.size + 3) (dsA zeroD) 86 := Blk.new (((w.alloc (.cells rgVr 82)).alloc (.cells #[v] 27)).alloc (.cells #[.int .u8 0, .int .u8 0, .int .u8 0, .int .u8 0, .int .u8 0, .int .u8 0, .int .u8 0, .int .u8 0, .int .u8 0, .int .u8 0, .int .u8 0, .int .u8 0, .int .u8 0, .int .u8 0, .int .u8 0, .int .u8 0] 86)) #[.int .u8 0, .int .u8 0, .int .u8 0, .int .u8 0, .int .u8 0, .int .u8 0, .int .u8 0, .int .u8 0, .int .u8 0, .int .u8 0, .int .u8 0, .int .u8 0, .int .u8 0, .int .u8 0, .int .u8 0, .int .u8 0] 86 _ (by simp)
  have g0 : Grew w ((((w.alloc (.cells rgVr 82)).alloc (.cells #[v] 27)).alloc (.cells #[.int .u8 0, .int .u8 0, .int .u8 0, .int .u8 0, .int .u8 0, .int .u8 0, .int .u8 0, .int .u8 0, .int .u8 0, .int .u8 0, .int .u8 0, .int .u8 0, .int .u8 0, .int .u8 0, .int .u8 0, .int .u8 0] 86)).alloc (.cells #[.int .u8 0, .int .u8 0, .int .u8 0, .int .u8 0, .int .u8 0, .int .u8 0, .int .u8 0, .int .u8 0, .int .u8 0, .int .u8 0, .int .u8 0, .int .u8 0, .int .u8 0, .int .u8 0, .int .u8 0, .int .u8 0] 86)) := ((((Grew.refl w).alloc (.cells rgVr 82)).alloc (.cells #[v] 27)).alloc (.cells #[.int .u8 0, .int .u8 0, .int .u8 0, .int .u8 0, .int .u8 0, .int .u8 0, .int .u8 0, .int .u8 0, .int .u8 0, .int .u8 0, .int .u8 0, .int .u8 0, .int .u8 0, .int .u8 0, .int .u8 0, .int .u8 0] 86)).alloc (.cells #[.int .u8 0, .int .u8 0, .int .u8 0, .int .u8 0, .int .u8 0, .int .u8 0, .int .u8 0, .int .u8 0, .int .u8 0, .int .u8 0, .int .u8 0, .int .u8 0, .int .u8 0, .int .u8 0, .int .u8 0, .int .u8 0] 86)
  replace hB := ((((hB).alloc (.cells rgVr 82)).alloc (.cells #[v] 27)).alloc (.cells #[.int .u8 0, .int .u8 0, .int .u8 0, .int .u8 0, .int .u8 0, .int .u8 0, .int .u8 0, .int .u8 0, .int .u8 0, .int .u8 0, .int .u8 0, .int .u8 0, .int .u8 0, .int .u8 0, .int .u8 0, .int .u8 0] 86)).alloc (.cells #[.int .u8 0, .int .u8 0, .int .u8 0, .int .u8 0, .int .u8 0, .int .u8 0, .int .u8 0, .int .u8 0, .int .u8 0, .int .u8 0, .int .u8 0, .int .u8 0, .int .u8 0, .int .u8 0, .int .u8 0, .int .u8 0] 86)
  generalize ((((w.alloc (.cells rgVr 82)).alloc (.cells #[v] 27)).alloc (.cells #[.int .u8 0, .int .u8 0, .int .u8 0, .int .u8 0, .int .u8 0, .int .u8 0, .int .u8 0, .int .u8 0, .int .u8 0, .int .u8 0, .int .u8 0, .int .u8 0, .int .u8 0, .int .u8 0, .int .u8 0, .int .u8 0] 86)).alloc (.cells #[.int .u8 0, .int .u8 0, .int .u8 0, .int .u8 0, .int .u8 0, .int .u8 0, .int .u8 0, .int .u8 0, .int .u8 0, .int .u8 0, .int .u8 0, .int .u8 0, .int .u8 0, .int .u8 0, .int .u8 0, .int .u8 0] 86)) = w0 at *
  have lG : w.heap.size ≤ w.heap.size := by omega
  have lM : w.heap.size ≤ (w.heap.size + 1) := by omega
  have lR : w.heap.size ≤ (w.heap.size + 2) := by omega
  have lD : w.heap.size ≤ (w.heap.size + 3) := by omega
  have nGM : w.heap.size ≠ (w.heap.size + 1) := by omega
  have nGR : w.heap.size ≠ (w.heap.size + 2) := by omega
  have nGD : w.heap.size ≠ (w.heap.size + 3) := by omega
  have nMG : (w.heap.size + 1) ≠ w.heap.size := by omega
  have nMR : (w.heap.size + 1) ≠ (w.heap.size + 2) := by omega
  have nMD : (w.heap.size + 1) ≠ (w.heap.size + 3) := by omega
  have nRG : (w.heap.size + 2) ≠ w.heap.size := by omega
  have nRM : (w.heap.size + 2) ≠ (w.heap.size + 1) := by omega
  have nRD : (w.heap.size + 2) ≠ (w.heap.size + 3) := by omega
  have nDG : (w.heap.size + 3) ≠ w.heap.size := by omega
  have nDM : (w.heap.size + 3) ≠ (w.heap.size + 1) := by omega
  have nDR : (w.heap.size + 3) ≠ (w.heap.size + 2) := by omega
  generalize (w.heap.size + 3) = D at *
  generalize (w.heap.size + 2) = R at *
  generalize (w.heap.size + 1) = M at *
  generalize hZ : w.heap.size = G at *
  have HZ := Lib.hid hZ
  clear hZ
  have LG : Hid (w.heap.size ≤ G) := Lib.hid (by rw [HZ.out]; exact lG)
  have LM : Hid (w.heap.size ≤ M) := Lib.hid (by rw [HZ.out]; exact lM)
  have LR : Hid (w.heap.size ≤ R) := Lib.hid (by rw [HZ.out]; exact lR)
  have LD : Hid (w.heap.size ≤ D) := Lib.hid (by rw [HZ.out]; exact lD)
  have hpG : p < G := hp
  replace HM := Lib.hid (HM.out.grew g0)
  refine wp_region_held_drew (S := fun w' => Grew w0 w') (by kernel_rfl) ((Grew.refl w0).drew1) (fun hHeld => ?_)
  replace hHeld : Grew w0 w0.drew := hHeld
  generalize w0.drew = wq0 at *
  refine wpAnyH_take (i := 0) (v := ?_) rfl (by kernel_rfl) (by kernel_rfl) (by kernel_rfl) (fun _ _ _ h => h) (Or.inl ⟨by rfl, ?_⟩) hHeld ?_
  rotate_left
  · intro wq hSw
    replace hSw : Grew w0 wq := hSw
    have y0 := (kM.grew hSw).cell 0
    go_simp
    try with_reducible rfl
  try simp only [List.getElem_toArray, List.getElem_cons_succ, List.getElem_cons_zero, Act.put, List.setIfInBounds_toArray, List.set_cons_zero, List.set_cons_succ]
  refine wpAnyH_take (i := 1) (v := ?_) rfl (by kernel_rfl) (by kernel_rfl) (by kernel_rfl) (fun _ _ _ h => h) (Or.inl ⟨by rfl, ?_⟩) hHeld ?_
  rotate_left
  · intro wq hSw
    replace hSw : Grew w0 wq := hSw
    go_simp
    try with_reducible rfl
  try simp only [List.getElem_toArray, List.getElem_cons_succ, List.getElem_cons_zero, Act.put, List.setIfInBounds_toArray, List.set_cons_zero, List.set_cons_succ]
  refine wpAnyH_take (i := 2) (v := ?_) rfl (by kernel_rfl) (by kernel_rfl) (by kernel_rfl) (fun _ _ _ h => h) (Or.inl ⟨by rfl, ?_⟩) hHeld ?_
  rotate_left
  · intro wq hSw
    replace hSw : Grew w0 wq := hSw
    have y0 : wq.cell? ⟨G, 0, none⟩ = some (.int .i64 7) := (kG.grew hSw).cell 0
    have y1 : wq.cell? ⟨G, 1, none⟩ = some (.int .i64 8) := (kG.grew hSw).cell 1
    have y2 : wq.cell? ⟨G, 2, none⟩ = some (.int .i64 9) := (kG.grew hSw).cell 2
    have y3 : wq.cell? ⟨G, 3, none⟩ = some (.int .i64 10) := (kG.grew hSw).cell 3
    have y4 : wq.cell? ⟨G, 4, none⟩ = some (.int .u32 2) := (kG.grew hSw).cell 4
    go_simp
    try with_reducible rfl
  try simp only [List.getElem_toArray, List.getElem_cons_succ, List.getElem_cons_zero, Act.put, List.setIfInBounds_toArray, List.set_cons_zero, List.set_cons_succ]
  refine wpAnyH_ready (rs := [3]) (by kernel_rfl) (by simp) ?_
  refine AllReadyH.cons rfl (fun K hK => ?_) AllReadyH.nil
  go_simp
  refine Calls.mono (hPl.out _ (hB.grew hHeld)) ?_
  rintro e w3 ⟨rfl, g3⟩
  refine hK.out _ _ (hHeld.trans g3) (fun hHeld => ?_)
  clear hK K
  try simp only [List.getElem_toArray, List.getElem_cons_succ, List.getElem_cons_zero, Act.put, List.setIfInBounds_toArray, List.set_cons_zero, List.set_cons_succ]
  refine wpAnyH_ready (rs := [4]) (by kernel_rfl) (by simp) ?_
  refine AllReadyH.cons rfl (fun K hK => ?_) AllReadyH.nil
  go_simp
  refine Calls.mono (hBy.out _ (HM.out.grew hHeld)) ?_
  rintro e w4 ⟨u, rfl, hu, g4⟩
  have HU := Lib.hid hu
  clear hu
  refine hK.out _ _ (hHeld.trans g4) (fun hHeld => ?_)
  clear hK K
  try simp only [List.getElem_toArray, List.getElem_cons_succ, List.getElem_cons_zero, Act.put, List.setIfInBounds_toArray, List.set_cons_zero, List.set_cons_succ]
  refine wpAnyH_take (i := 5) (v := ?_) rfl (by kernel_rfl) (by kernel_rfl) (by kernel_rfl) (fun _ _ _ h => h) (Or.inl ⟨by rfl, ?_⟩) hHeld ?_
  rotate_left
  · intro wq hSw
    replace hSw : Grew w0 wq := hSw
    go_simp
    try with_reducible rfl
  try simp only [List.getElem_toArray, List.getElem_cons_succ, List.getElem_cons_zero, Act.put, List.setIfInBounds_toArray, List.set_cons_zero, List.set_cons_succ]
  refine wpAnyH_take (i := 6) (v := ?_) rfl (by kernel_rfl) (by kernel_rfl) (by kernel_rfl) (fun _ _ _ h => h) (Or.inl ⟨by rfl, ?_⟩) hHeld ?_
  rotate_left
  · intro wq hSw
    replace hSw : Grew w0 wq := hSw
    go_simp
    try with_reducible rfl
  try simp only [List.getElem_toArray, List.getElem_cons_succ, List.getElem_cons_zero, Act.put, List.setIfInBounds_toArray, List.set_cons_zero, List.set_cons_succ]
  refine wpAnyH_take (i := 7) (v := ?_) rfl (by kernel_rfl) (by kernel_rfl) (by kernel_rfl) (fun _ _ _ h => h) (Or.inl ⟨by rfl, ?_⟩) hHeld ?_
  rotate_left
  · intro wq hSw
    replace hSw : Grew w0 wq := hSw
    go_simp
    try with_reducible rfl
  try simp only [List.getElem_toArray, List.getElem_cons_succ, List.getElem_cons_zero, Act.put, List.setIfInBounds_toArray, List.set_cons_zero, List.set_cons_succ]
  refine wpAnyH_take (i := 8) (v := ?_) rfl (by kernel_rfl) (by kernel_rfl) (by kernel_rfl) (fun _ _ _ h => h) (Or.inl ⟨by rfl, ?_⟩) hHeld ?_
  rotate_left
  · intro wq hSw
    replace hSw : Grew w0 wq := hSw
    go_simp
    try with_reducible rfl
  try simp only [List.getElem_toArray, List.getElem_cons_succ, List.getElem_cons_zero, Act.put, List.setIfInBounds_toArray, List.set_cons_zero, List.set_cons_succ]
  refine wpAnyH_take (i := 9) (v := ?_) rfl (by kernel_rfl) (by kernel_rfl) (by kernel_rfl) (fun _ _ _ h => h) (Or.inl ⟨by rfl, ?_⟩) hHeld ?_
  rotate_left
  · intro wq hSw
    replace hSw : Grew w0 wq := hSw
    go_simp
    try with_reducible rfl
  try simp only [List.getElem_toArray, List.getElem_cons_succ, List.getElem_cons_zero, Act.put, List.setIfInBounds_toArray, List.set_cons_zero, List.set_cons_succ]
  refine wpAnyH_done (by kernel_rfl) ?_ _
  try simp only [List.getElem_toArray, List.getElem_cons_succ, List.getElem_cons_zero, Act.put, List.setIfInBounds_toArray, List.set_cons_zero, List.set_cons_succ]
  have hB1 := hB.grew hHeld
  have kR1 := kR.grew hHeld
  have kD1 := kD.grew hHeld
  have kG1 := kG.grew hHeld
  have g1 := g0.trans hHeld
  have lt1 := kR1.lt
  have lt2 := kD1.lt
  clear hB kR kD kG kM g0 hHeld
  go_upto_region 4 with fail
  generalize w4 = w5 at *
  have z0 := fun z : Over w5 => hB1.rgO 0 (by decide) z
  have z1 := fun z : Over w5 => kG1.overCell 4 (.int .u32 2) rfl z
  refine region_over_tail 9 (by kernel_rfl) (by kernel_rfl) ?_
  simp only [List.take_succ_cons, List.take_zero, List.drop_succ_cons, List.drop_zero]
  repeat (first | go_big_quiet_step (fail) | quiet_step (fail))
  refine wpQuiet_nil ?_
  intro z
  have hB2 := hB1.over z
  have kR2 := kR1.over z
  have kD2 := kD1.over z
  have g2 := g1.trans z.g
  clear z0 z1 hB1 kR1 kD1 kG1 g1
  generalize z.w = w6 at *
  have c0 := hB2.rgC 0 (by decide)
  have f0 := hB2.free 0
  go_upto_region 5 with fail
  have hB3 := hB2.rg (by decide : 0 < 15) (c 0 - 2)
  have o3 := Only.set w6 p 0 (.int .u32 (c 0 - 2))
  clear c0 f0 hB2
  generalize (w6.setCell ⟨p, 0, none⟩ (.int .u32 (c 0 - 2))) = w7 at *
  replace kR2 := kR2.only o3 (by omega)
  replace kD2 := kD2.only o3 (by omega)
  have t3 : Trn p w w7 := (Trn.of_grew g2).trans o3.trn
  clear o3 g2
  go_wp2_with fail
  refine (hF.out _ hB3).mono ?_
  rintro e w8 ⟨rfl, hB4, t4⟩
  have kR4 := kR2.trn t4 (by omega)
  have kD4 := kD2.trn t4 (by omega)
  go_wp2_with (first | (refine ld_ds rfl (.tmp 8) rfl _ rfl rfl kD4 (by rfl) ?_) | (refine st_ds rfl (.tmp 6) (.tmp 32) rfl rfl zeroD rfl kR4 rfl (by rfl) (by rfl) ?_; intro w9 kR5 o9))
  have tz : Trn p w w9 := (t3.trans t4).only o9 LR.out
  have hB5 := hB4.only o9 (by omega)
  exact bodyPost_ret (v := .tuple #[.agg (dsA zeroD), .bool false]) (results_ds (p := 6) (q := 7) Try.results56 _ _ R rfl kR5 rfl) rfl ⟨rfl, hB5, tz⟩
end Go.Proofs.Ytoehdhhodidehaa
