/-
  The document's returns from traps (drawbridgeref06): Mret, Sret.
-/
import Derived.Test.YtbkbbcfhmjodlaaDoorTrapC
import Derived.Deep.RegionHeld3
set_option linter.unusedVariables false
set_option linter.unusedSimpArgs false
namespace Go.Proofs.YtbkbbcfhmjodlaaDoor
open Go.RowKit

theorem wp_gen2 {P : Program} {code : Code} {Q : Exit → Act → World → Prop} {a : Act} {W w : World} {cs z : Array Value} {T T' : TypeId} (hg : Grew W w)
    (h : ∀ w1, Blk w1 w.heap.size cs T → Blk w1 (w.heap.size + 1) z T' → Grew W w1 → code.wp P Q a w1) : code.wp P Q a ((w.alloc (.cells cs T)).alloc (.cells z T')) :=
  h _ (Blk.new2 w cs T _) (Blk.new2b w _ z T') ((hg.alloc _).alloc _)
theorem results_cs3 {fn : Func} {p q r : Tmp} (h : fn.results = #[.cell p 24, .tmp q, .tmp r]) (tmps : Array Value) (w : World) (g : Nat) {c : Nat → Int} {T : TypeId} (k : Blk w g (csA c) T)
    (hp : tmps.getD p undef = .pointer (some ⟨g, 0, none⟩)) : (results fn tmps).run Tryd.prog w = .ok (.tuple #[csV c, tmps.getD q undef, tmps.getD r undef]) w := by
  have hp' : tmps[p]?.getD undef = .pointer (some ⟨g, 0, none⟩) := by simpa using hp
  simp [results, h, hp', asAddr, var_cs k]

theorem yl_cs {ops : Array Oper} {S : World → Prop} {o : Oper} {a : Act} {x : Operand} {g : Nat} {c : Nat → Int} {T : TypeId} (ho : o.op = .load 24 x) (hw : Region.wanted o (yielded ops a.tmps) = true) (hx : a.eval x = .pointer (some ⟨g, 0, none⟩)) (k : ∀ w, S w → Blk w g (csA c) T) :
    YieldsIf Tryd.prog ops S o (csV c) a := by
  refine Or.inl ⟨hw, fun w hSw => ?_⟩
  unfold execOp
  simp only [ho, hx, Instr.loadAt, Instr.sureAddr, Sem.run_bind, Sem.run_pure, Result.andThen_ok, var_cs (k w hSw)]

def mretS (s : Nat) : Nat := ndn (setN (setN s 3 (bitN s 7)) 7 1) 6144
def mretN (s : Nat) : Nat := if s / 2048 % 4 = 3 then mretS s else setN (mretS s) 17 0
def sretN (s : Nat) : Nat := setN (setN (setN (setN s 1 (bitN s 5)) 5 1) 8 0) 17 0
theorem mretS_lt (s : Nat) (hs : s < 2 ^ 64) : mretS s < 2 ^ 64 := ndn_lt _ _ (setN_lt _ _ _ (setN_lt _ _ _ hs (by decide) (bitN_lt _ _)) (by decide) (by decide))

set_option maxRecDepth 100000 in
set_option maxHeartbeats 1000000 in
theorem mret_three (c : Nat → Int) (s : Nat) (hs : s < 2 ^ 64) (c0 : c 0 = (s : Int)) (h : s / 2048 % 4 = 3) {W w : World} (hg : Grew W w) :
    Calls Tryd.prog 13 #[csV c] w fun e w' => e = .returned (.tuple #[csV (upd c 0 (mretS s : Nat)), .int .i64 3, .int .u64 (c 7)]) ∧ Grew W w' := by
  have hgs := hg.size
  have HS := Lib.hid hs
  have s1 := setN_lt s 3 _ hs (by decide) (bitN_lt s 7)
  have s2 := setN_lt _ 7 1 s1 (by decide) (by decide)
  have E : bits .andNot .u64 ((setN (setN s 3 (bitN s 7)) 7 1 : Nat) : Int) 6144 = ((mretS s : Nat) : Int) := l_not _ s2 6144 (by decide) 6144 rfl
  have S1 := Lib.hid s1
  have M1 := Lib.hid (mretS_lt s hs)
  have sb : (s : Int) < 18446744073709551616 := by omega
  have hq : ((s : Int) / 2048 % 4) = 3 := by omega
  clear h
  clear hs s1 s2
  go_enter Tryd.func13, Tryd.ntmps13
  go_upto_region 1 with fail
  refine wp_gen2 hg ?_
  intro w1 kb kz g1
  have y0 : w1.cell? ⟨w.heap.size, 0, none⟩ = some (.int .u64 (s : Nat)) := by rw [kb.cell, csA_0, c0]
  have f0 := kb.free 0
  change Blk w1 (w.heap.size + 1) (csA fun _ => 0) 24 at kz
  go_wp2_with fail
  refine region_quiet_tail 9 (by kernel_rfl) (by kernel_rfl) ?_
  simp only [List.take_succ_cons, List.take_zero, List.drop_succ_cons, List.drop_zero]
  repeat (first
    | go_big_quiet_step ((first | (go_at_call 26; with_reducible exact quiet_eq (bit_l s HS.out 7 7 rfl (by decide) _)) | (go_at_call 27; with_reducible exact quiet_eq (set_l s HS.out 3 3 rfl (by decide) (bitN s 7) ((bitN s 7 : Nat) : Int) rfl (bitN_lt _ _) _)) | (go_at_call 27; with_reducible exact quiet_eq (set_l _ S1.out 7 7 rfl (by decide) 1 1 rfl (by decide) _))))
    | quiet_step ((first | (go_at_call 26; with_reducible exact quiet_eq (bit_l s HS.out 7 7 rfl (by decide) _)) | (go_at_call 27; with_reducible exact quiet_eq (set_l s HS.out 3 3 rfl (by decide) (bitN s 7) ((bitN s 7 : Nat) : Int) rfl (bitN_lt _ _) _)) | (go_at_call 27; with_reducible exact quiet_eq (set_l _ S1.out 7 7 rfl (by decide) 1 1 rfl (by decide) _)))))
  refine wpQuiet_nil ?_
  intro nq
  go_upto_region 3 with fail
  have k3 : Blk (World.setCell (w1.drewN nq) ⟨w.heap.size, 0, none⟩ (.int .u64 (((mretS s : Nat) : Int)))) w.heap.size (csA (upd c 0 ((mretS s : Nat) : Int))) 24 := by
    have := (kb.drewN nq).set (o := 0) (.int .u64 (((mretS s : Nat) : Int)))
    rw [csU_0] at this
    exact this
  have z3 := (kz.drewN nq).other (o := 0) (c := w.heap.size) (by omega) (.int .u64 (((mretS s : Nat) : Int)))
  have g3 : Grew W (World.setCell (w1.drewN nq) ⟨w.heap.size, 0, none⟩ (.int .u64 (((mretS s : Nat) : Int)))) := (g1.drewN nq).setCell hgs _
  clear y0 f0 E
  generalize World.setCell (w1.drewN nq) ⟨w.heap.size, 0, none⟩ (.int .u64 (((mretS s : Nat) : Int))) = w3 at *
  go_wp2_with fail
  obtain ⟨d, hd⟩ : ∃ d, d = upd c 0 ((mretS s : Nat) : Int) := ⟨_, rfl⟩
  have dq : d 7 = c 7 := by rw [hd]; rfl
  rw [← hd] at k3
  have HD := Lib.hid hd
  clear hd
  have kz := z3.drew
  refine wp_region_held_drew (S := fun w' => Blk w' w.heap.size (csA d) 24) (by kernel_rfl) (k3.drew) (fun hHeld => ?_)
  refine wpAnyH_take (i := 0) (v := csV d) rfl (by kernel_rfl) (by kernel_rfl) (by kernel_rfl) (fun _ _ _ h => h) (yl_cs rfl (by rfl) (by rfl) fun _ h => h) (by assumption) ?_
  try simp only [List.getElem_toArray, List.getElem_cons_succ, List.getElem_cons_zero, Act.put, List.setIfInBounds_toArray, List.set_cons_zero, List.set_cons_succ]
  refine wpAnyH_take (i := 1) (v := ?_) rfl (by kernel_rfl) (by kernel_rfl) (by kernel_rfl) (fun _ _ _ h => h) (Or.inl ⟨by rfl, ?_⟩) (by assumption) ?_
  rotate_left
  · intro wx hSw
    have hSc : wx.cell? ⟨w.heap.size, 7, none⟩ = some (.int .u64 (c 7)) := by rw [hSw.cell, csA_7, dq]
    clear hSw
    go_simp
    try with_reducible rfl
  try simp only [List.getElem_toArray, List.getElem_cons_succ, List.getElem_cons_zero, Act.put, List.setIfInBounds_toArray, List.set_cons_zero, List.set_cons_succ]
  refine wpAnyH_take (i := 2) (v := ?_) rfl (by kernel_rfl) (by kernel_rfl) (by kernel_rfl) (fun _ _ _ h => h) (Or.inl ⟨by rfl, ?_⟩) (by assumption) ?_
  rotate_left
  · intro wx hSw
    have hSc : wx.cell? ⟨w.heap.size, 7, none⟩ = some (.int .u64 (c 7)) := by rw [hSw.cell, csA_7, dq]
    clear hSw
    go_simp
    try with_reducible rfl
  try simp only [List.getElem_toArray, List.getElem_cons_succ, List.getElem_cons_zero, Act.put, List.setIfInBounds_toArray, List.set_cons_zero, List.set_cons_succ]
  refine wpAnyH_take (i := 3) (v := ?_) rfl (by kernel_rfl) (by kernel_rfl) (by kernel_rfl) (fun _ _ _ h => h) (Or.inl ⟨by rfl, ?_⟩) (by assumption) ?_
  rotate_left
  · intro wx hSw
    have hSc : wx.cell? ⟨w.heap.size, 7, none⟩ = some (.int .u64 (c 7)) := by rw [hSw.cell, csA_7, dq]
    clear hSw
    go_simp
    try with_reducible rfl
  try simp only [List.getElem_toArray, List.getElem_cons_succ, List.getElem_cons_zero, Act.put, List.setIfInBounds_toArray, List.set_cons_zero, List.set_cons_succ]
  refine wpAnyH_ready (rs := [4]) (by kernel_rfl) (by simp) ?_
  refine AllReadyH.cons rfl (fun K hK => ?_) AllReadyH.nil
  rw [if_pos (by rfl)]
  refine wp_store_row 24 (.tmp 2) (.tmp 26) rfl (w.heap.size + 1) (csA d) (by rfl) (by rfl) _ _ kz csInfo rfl (csA_one d) ?_
  have kl := kz.setRow (cs := csA d)
  have gl := (g3.drew1).setRow (b := w.heap.size + 1) (Nat.le_succ_of_le hgs) (csA d)
  have hl := (Blk.otherRow (g := w.heap.size + 1) (new := csA d) hHeld (by omega))
  refine hK.out _ _ hl (fun hHeld => ?_)
  clear hK K hl
  try simp only [List.getElem_toArray, List.getElem_cons_succ, List.getElem_cons_zero, Act.put, List.setIfInBounds_toArray, List.set_cons_zero, List.set_cons_succ]
  refine wpAnyH_take (i := 5) (v := ?_) rfl (by kernel_rfl) (by kernel_rfl) (by kernel_rfl) (fun _ _ _ h => h) (Or.inl ⟨by rfl, ?_⟩) (by assumption) ?_
  rotate_left
  · intro wx hSw
    have hSc : wx.cell? ⟨w.heap.size, 7, none⟩ = some (.int .u64 (c 7)) := by rw [hSw.cell, csA_7, dq]
    clear hSw
    go_simp
    try with_reducible rfl
  try simp only [List.getElem_toArray, List.getElem_cons_succ, List.getElem_cons_zero, Act.put, List.setIfInBounds_toArray, List.set_cons_zero, List.set_cons_succ]
  refine wpAnyH_take (i := 6) (v := ?_) rfl (by kernel_rfl) (by kernel_rfl) (by kernel_rfl) (fun _ _ _ h => h) (Or.inl ⟨by rfl, ?_⟩) (by assumption) ?_
  rotate_left
  · intro wx hSw
    have hSc : wx.cell? ⟨w.heap.size, 7, none⟩ = some (.int .u64 (c 7)) := by rw [hSw.cell, csA_7, dq]
    clear hSw
    go_simp
    try with_reducible rfl
  try simp only [List.getElem_toArray, List.getElem_cons_succ, List.getElem_cons_zero, Act.put, List.setIfInBounds_toArray, List.set_cons_zero, List.set_cons_succ]
  refine wpAnyH_done (by kernel_rfl) ?_ _
  try simp only [List.getElem_toArray, List.getElem_cons_succ, List.getElem_cons_zero, Act.put, List.setIfInBounds_toArray, List.set_cons_zero, List.set_cons_succ]
  go_wp2_with fail
  exact bodyPost_ret (v := .tuple #[csV d, .int .i64 3, .int .u64 (c 7)]) (results_cs3 (p := 2) (q := 3) (r := 4) Tryd.results13 _ _ (w.heap.size + 1) kl rfl) rfl ⟨by rw [HD.out], gl⟩

set_option maxRecDepth 100000 in
set_option maxHeartbeats 1000000 in
theorem mret_less (c : Nat → Int) (s : Nat) (hs : s < 2 ^ 64) (c0 : c 0 = (s : Int)) (p : Int) (hp : (s : Int) / 2048 % 4 = p) (hn : (p != 3) = true) {W w : World} (hg : Grew W w) :
    Calls Tryd.prog 13 #[csV c] w fun e w' => e = .returned (.tuple #[csV (upd c 0 (setN (mretS s) 17 0 : Nat)), .int .i64 p, .int .u64 (c 7)]) ∧ Grew W w' := by
  have hgs := hg.size
  have HS := Lib.hid hs
  have s1 := setN_lt s 3 _ hs (by decide) (bitN_lt s 7)
  have s2 := setN_lt _ 7 1 s1 (by decide) (by decide)
  have E : bits .andNot .u64 ((setN (setN s 3 (bitN s 7)) 7 1 : Nat) : Int) 6144 = ((mretS s : Nat) : Int) := l_not _ s2 6144 (by decide) 6144 rfl
  have S1 := Lib.hid s1
  have M1 := Lib.hid (mretS_lt s hs)
  have sb : (s : Int) < 18446744073709551616 := by omega
  clear hs s1 s2
  go_enter Tryd.func13, Tryd.ntmps13
  go_upto_region 1 with fail
  refine wp_gen2 hg ?_
  intro w1 kb kz g1
  have y0 : w1.cell? ⟨w.heap.size, 0, none⟩ = some (.int .u64 (s : Nat)) := by rw [kb.cell, csA_0, c0]
  have f0 := kb.free 0
  change Blk w1 (w.heap.size + 1) (csA fun _ => 0) 24 at kz
  go_wp2_with fail
  refine region_quiet_tail 9 (by kernel_rfl) (by kernel_rfl) ?_
  simp only [List.take_succ_cons, List.take_zero, List.drop_succ_cons, List.drop_zero]
  repeat (first
    | go_big_quiet_step ((first | (go_at_call 26; with_reducible exact quiet_eq (bit_l s HS.out 7 7 rfl (by decide) _)) | (go_at_call 27; with_reducible exact quiet_eq (set_l s HS.out 3 3 rfl (by decide) (bitN s 7) ((bitN s 7 : Nat) : Int) rfl (bitN_lt _ _) _)) | (go_at_call 27; with_reducible exact quiet_eq (set_l _ S1.out 7 7 rfl (by decide) 1 1 rfl (by decide) _))))
    | quiet_step ((first | (go_at_call 26; with_reducible exact quiet_eq (bit_l s HS.out 7 7 rfl (by decide) _)) | (go_at_call 27; with_reducible exact quiet_eq (set_l s HS.out 3 3 rfl (by decide) (bitN s 7) ((bitN s 7 : Nat) : Int) rfl (bitN_lt _ _) _)) | (go_at_call 27; with_reducible exact quiet_eq (set_l _ S1.out 7 7 rfl (by decide) 1 1 rfl (by decide) _)))))
  refine wpQuiet_nil ?_
  intro nq
  go_upto_region 3 with fail
  have k3 : Blk (World.setCell (w1.drewN nq) ⟨w.heap.size, 0, none⟩ (.int .u64 (((mretS s : Nat) : Int)))) w.heap.size (csA (upd c 0 ((mretS s : Nat) : Int))) 24 := by
    have := (kb.drewN nq).set (o := 0) (.int .u64 (((mretS s : Nat) : Int)))
    rw [csU_0] at this
    exact this
  have z3 := (kz.drewN nq).other (o := 0) (c := w.heap.size) (by omega) (.int .u64 (((mretS s : Nat) : Int)))
  have g3 : Grew W (World.setCell (w1.drewN nq) ⟨w.heap.size, 0, none⟩ (.int .u64 (((mretS s : Nat) : Int)))) := (g1.drewN nq).setCell hgs _
  clear y0 f0 E
  generalize World.setCell (w1.drewN nq) ⟨w.heap.size, 0, none⟩ (.int .u64 (((mretS s : Nat) : Int))) = w3 at *
  have y3 : w3.cell? ⟨w.heap.size, 0, none⟩ = some (.int .u64 (mretS s : Nat)) := by rw [k3.cell, csA_0]; rfl
  have f3 := k3.free 0
  go_upto_region 5 with (go_at_call 27; refine (set_l _ M1.out 17 17 rfl (by decide) 0 0 rfl (by decide) _).mono ?_; rintro e w4 ⟨rfl, rfl⟩)
  have k5 : Blk (World.setCell (w3) ⟨w.heap.size, 0, none⟩ (.int .u64 (((setN (mretS s) 17 0 : Nat) : Int)))) w.heap.size (csA (upd (upd c 0 ((mretS s : Nat) : Int)) 0 ((setN (mretS s) 17 0 : Nat) : Int))) 24 := by
    have := (k3).set (o := 0) (.int .u64 (((setN (mretS s) 17 0 : Nat) : Int)))
    rw [csU_0] at this
    exact this
  have z5 := (z3).other (o := 0) (c := w.heap.size) (by omega) (.int .u64 (((setN (mretS s) 17 0 : Nat) : Int)))
  have g5 : Grew W (World.setCell (w3) ⟨w.heap.size, 0, none⟩ (.int .u64 (((setN (mretS s) 17 0 : Nat) : Int)))) := (g3).setCell hgs _
  clear y3 f3
  generalize World.setCell (w3) ⟨w.heap.size, 0, none⟩ (.int .u64 (((setN (mretS s) 17 0 : Nat) : Int))) = w5 at *
  rw [upd_upd] at k5
  obtain ⟨d, hd⟩ : ∃ d, d = upd c 0 ((setN (mretS s) 17 0 : Nat) : Int) := ⟨_, rfl⟩
  have dq : d 7 = c 7 := by rw [hd]; rfl
  rw [← hd] at k5
  have HD := Lib.hid hd
  clear hd
  have kz := z5.drew
  refine wp_region_held_drew (S := fun w' => Blk w' w.heap.size (csA d) 24) (by kernel_rfl) (k5.drew) (fun hHeld => ?_)
  refine wpAnyH_take (i := 0) (v := csV d) rfl (by kernel_rfl) (by kernel_rfl) (by kernel_rfl) (fun _ _ _ h => h) (yl_cs rfl (by rfl) (by rfl) fun _ h => h) (by assumption) ?_
  try simp only [List.getElem_toArray, List.getElem_cons_succ, List.getElem_cons_zero, Act.put, List.setIfInBounds_toArray, List.set_cons_zero, List.set_cons_succ]
  refine wpAnyH_take (i := 1) (v := ?_) rfl (by kernel_rfl) (by kernel_rfl) (by kernel_rfl) (fun _ _ _ h => h) (Or.inl ⟨by rfl, ?_⟩) (by assumption) ?_
  rotate_left
  · intro wx hSw
    have hSc : wx.cell? ⟨w.heap.size, 7, none⟩ = some (.int .u64 (c 7)) := by rw [hSw.cell, csA_7, dq]
    clear hSw
    go_simp
    try with_reducible rfl
  try simp only [List.getElem_toArray, List.getElem_cons_succ, List.getElem_cons_zero, Act.put, List.setIfInBounds_toArray, List.set_cons_zero, List.set_cons_succ]
  refine wpAnyH_take (i := 2) (v := ?_) rfl (by kernel_rfl) (by kernel_rfl) (by kernel_rfl) (fun _ _ _ h => h) (Or.inl ⟨by rfl, ?_⟩) (by assumption) ?_
  rotate_left
  · intro wx hSw
    have hSc : wx.cell? ⟨w.heap.size, 7, none⟩ = some (.int .u64 (c 7)) := by rw [hSw.cell, csA_7, dq]
    clear hSw
    go_simp
    try with_reducible rfl
  try simp only [List.getElem_toArray, List.getElem_cons_succ, List.getElem_cons_zero, Act.put, List.setIfInBounds_toArray, List.set_cons_zero, List.set_cons_succ]
  refine wpAnyH_take (i := 3) (v := ?_) rfl (by kernel_rfl) (by kernel_rfl) (by kernel_rfl) (fun _ _ _ h => h) (Or.inl ⟨by rfl, ?_⟩) (by assumption) ?_
  rotate_left
  · intro wx hSw
    have hSc : wx.cell? ⟨w.heap.size, 7, none⟩ = some (.int .u64 (c 7)) := by rw [hSw.cell, csA_7, dq]
    clear hSw
    go_simp
    try with_reducible rfl
  try simp only [List.getElem_toArray, List.getElem_cons_succ, List.getElem_cons_zero, Act.put, List.setIfInBounds_toArray, List.set_cons_zero, List.set_cons_succ]
  refine wpAnyH_ready (rs := [4]) (by kernel_rfl) (by simp) ?_
  refine AllReadyH.cons rfl (fun K hK => ?_) AllReadyH.nil
  rw [if_pos (by rfl)]
  refine wp_store_row 24 (.tmp 2) (.tmp 26) rfl (w.heap.size + 1) (csA d) (by rfl) (by rfl) _ _ kz csInfo rfl (csA_one d) ?_
  have kl := kz.setRow (cs := csA d)
  have gl := (g5.drew1).setRow (b := w.heap.size + 1) (Nat.le_succ_of_le hgs) (csA d)
  have hl := (Blk.otherRow (g := w.heap.size + 1) (new := csA d) hHeld (by omega))
  refine hK.out _ _ hl (fun hHeld => ?_)
  clear hK K hl
  try simp only [List.getElem_toArray, List.getElem_cons_succ, List.getElem_cons_zero, Act.put, List.setIfInBounds_toArray, List.set_cons_zero, List.set_cons_succ]
  refine wpAnyH_take (i := 5) (v := ?_) rfl (by kernel_rfl) (by kernel_rfl) (by kernel_rfl) (fun _ _ _ h => h) (Or.inl ⟨by rfl, ?_⟩) (by assumption) ?_
  rotate_left
  · intro wx hSw
    have hSc : wx.cell? ⟨w.heap.size, 7, none⟩ = some (.int .u64 (c 7)) := by rw [hSw.cell, csA_7, dq]
    clear hSw
    go_simp
    try with_reducible rfl
  try simp only [List.getElem_toArray, List.getElem_cons_succ, List.getElem_cons_zero, Act.put, List.setIfInBounds_toArray, List.set_cons_zero, List.set_cons_succ]
  refine wpAnyH_take (i := 6) (v := ?_) rfl (by kernel_rfl) (by kernel_rfl) (by kernel_rfl) (fun _ _ _ h => h) (Or.inl ⟨by rfl, ?_⟩) (by assumption) ?_
  rotate_left
  · intro wx hSw
    have hSc : wx.cell? ⟨w.heap.size, 7, none⟩ = some (.int .u64 (c 7)) := by rw [hSw.cell, csA_7, dq]
    clear hSw
    go_simp
    try with_reducible rfl
  try simp only [List.getElem_toArray, List.getElem_cons_succ, List.getElem_cons_zero, Act.put, List.setIfInBounds_toArray, List.set_cons_zero, List.set_cons_succ]
  refine wpAnyH_done (by kernel_rfl) ?_ _
  try simp only [List.getElem_toArray, List.getElem_cons_succ, List.getElem_cons_zero, Act.put, List.setIfInBounds_toArray, List.set_cons_zero, List.set_cons_succ]
  go_wp2_with fail
  exact bodyPost_ret (v := .tuple #[csV d, .int .i64 p, .int .u64 (c 7)]) (results_cs3 (p := 2) (q := 3) (r := 4) Tryd.results13 _ _ (w.heap.size + 1) kl rfl) rfl ⟨by rw [HD.out], gl⟩

set_option maxRecDepth 100000 in
set_option maxHeartbeats 1000000 in
theorem sret_ref (c : Nat → Int) (s : Nat) (hs : s < 2 ^ 64) (c0 : c 0 = (s : Int)) {W w : World} (hg : Grew W w) :
    Calls Tryd.prog 15 #[csV c] w fun e w' => e = .returned (.tuple #[csV (upd c 0 (sretN s : Nat)), .int .i64 (bitN s 8 : Nat), .int .u64 (c 12)]) ∧ Grew W w' := by
  have hgs := hg.size
  have HS := Lib.hid hs
  have s1 := setN_lt s 1 _ hs (by decide) (bitN_lt s 5)
  have s2 := setN_lt _ 5 1 s1 (by decide) (by decide)
  have s3 := setN_lt _ 8 0 s2 (by decide) (by decide)
  have S1 := Lib.hid s1
  have S2 := Lib.hid s2
  have S3 := Lib.hid s3
  have b1 : ((bitN s 8 : Nat) : Int) < 2 := by have := bitN_lt s 8; omega
  clear hs s1 s2 s3
  go_enter Tryd.func15, Tryd.ntmps15
  go_upto_region 1 with fail
  refine wp_gen2 hg ?_
  intro w1 kb kz g1
  have y0 : w1.cell? ⟨w.heap.size, 0, none⟩ = some (.int .u64 (s : Nat)) := by rw [kb.cell, csA_0, c0]
  have f0 := kb.free 0
  change Blk w1 (w.heap.size + 1) (csA fun _ => 0) 24 at kz
  go_wp2_with (first
    | (go_at_call 26; refine (bit_l s HS.out 8 8 rfl (by decide) _).mono ?_; rintro e w2 ⟨rfl, rfl⟩)
    | fail)
  refine region_quiet_tail 10 (by kernel_rfl) (by kernel_rfl) ?_
  simp only [List.take_succ_cons, List.take_zero, List.drop_succ_cons, List.drop_zero]
  repeat (first
    | go_big_quiet_step ((first | (go_at_call 26; with_reducible exact quiet_eq (bit_l s HS.out 5 5 rfl (by decide) _)) | (go_at_call 27; with_reducible exact quiet_eq (set_l s HS.out 1 1 rfl (by decide) (bitN s 5) ((bitN s 5 : Nat) : Int) rfl (bitN_lt _ _) _)) | (go_at_call 27; with_reducible exact quiet_eq (set_l _ S1.out 5 5 rfl (by decide) 1 1 rfl (by decide) _)) | (go_at_call 27; with_reducible exact quiet_eq (set_l _ S2.out 8 8 rfl (by decide) 0 0 rfl (by decide) _)) | (go_at_call 27; with_reducible exact quiet_eq (set_l _ S3.out 17 17 rfl (by decide) 0 0 rfl (by decide) _))))
    | quiet_step ((first | (go_at_call 26; with_reducible exact quiet_eq (bit_l s HS.out 5 5 rfl (by decide) _)) | (go_at_call 27; with_reducible exact quiet_eq (set_l s HS.out 1 1 rfl (by decide) (bitN s 5) ((bitN s 5 : Nat) : Int) rfl (bitN_lt _ _) _)) | (go_at_call 27; with_reducible exact quiet_eq (set_l _ S1.out 5 5 rfl (by decide) 1 1 rfl (by decide) _)) | (go_at_call 27; with_reducible exact quiet_eq (set_l _ S2.out 8 8 rfl (by decide) 0 0 rfl (by decide) _)) | (go_at_call 27; with_reducible exact quiet_eq (set_l _ S3.out 17 17 rfl (by decide) 0 0 rfl (by decide) _)))))
  refine wpQuiet_nil ?_
  intro nq
  go_upto_region 3 with fail
  change Code.wp _ _ _ _ (World.setCell (w1.drewN nq) ⟨w.heap.size, 0, none⟩ (.int .u64 ((sretN s : Nat) : Int)))
  have k3 : Blk (World.setCell (w1.drewN nq) ⟨w.heap.size, 0, none⟩ (.int .u64 (((sretN s : Nat) : Int)))) w.heap.size (csA (upd c 0 ((sretN s : Nat) : Int))) 24 := by
    have := (kb.drewN nq).set (o := 0) (.int .u64 (((sretN s : Nat) : Int)))
    rw [csU_0] at this
    exact this
  have z3 := (kz.drewN nq).other (o := 0) (c := w.heap.size) (by omega) (.int .u64 (((sretN s : Nat) : Int)))
  have g3 : Grew W (World.setCell (w1.drewN nq) ⟨w.heap.size, 0, none⟩ (.int .u64 (((sretN s : Nat) : Int)))) := (g1.drewN nq).setCell hgs _
  clear y0 f0
  generalize World.setCell (w1.drewN nq) ⟨w.heap.size, 0, none⟩ (.int .u64 (((sretN s : Nat) : Int))) = w3 at *
  obtain ⟨d, hd⟩ : ∃ d, d = upd c 0 ((sretN s : Nat) : Int) := ⟨_, rfl⟩
  have dq : d 12 = c 12 := by rw [hd]; rfl
  rw [← hd] at k3
  have HD := Lib.hid hd
  clear hd
  have kz := z3.drew
  refine wp_region_held_drew (S := fun w' => Blk w' w.heap.size (csA d) 24) (by kernel_rfl) (k3.drew) (fun hHeld => ?_)
  refine wpAnyH_take (i := 0) (v := csV d) rfl (by kernel_rfl) (by kernel_rfl) (by kernel_rfl) (fun _ _ _ h => h) (yl_cs rfl (by rfl) (by rfl) fun _ h => h) (by assumption) ?_
  try simp only [List.getElem_toArray, List.getElem_cons_succ, List.getElem_cons_zero, Act.put, List.setIfInBounds_toArray, List.set_cons_zero, List.set_cons_succ]
  refine wpAnyH_take (i := 1) (v := ?_) rfl (by kernel_rfl) (by kernel_rfl) (by kernel_rfl) (fun _ _ _ h => h) (Or.inl ⟨by rfl, ?_⟩) (by assumption) ?_
  rotate_left
  · intro wx hSw
    have hSc : wx.cell? ⟨w.heap.size, 12, none⟩ = some (.int .u64 (c 12)) := by rw [hSw.cell, csA_12, dq]
    clear hSw
    go_simp
    try with_reducible rfl
  try simp only [List.getElem_toArray, List.getElem_cons_succ, List.getElem_cons_zero, Act.put, List.setIfInBounds_toArray, List.set_cons_zero, List.set_cons_succ]
  refine wpAnyH_take (i := 2) (v := ?_) rfl (by kernel_rfl) (by kernel_rfl) (by kernel_rfl) (fun _ _ _ h => h) (Or.inl ⟨by rfl, ?_⟩) (by assumption) ?_
  rotate_left
  · intro wx hSw
    have hSc : wx.cell? ⟨w.heap.size, 12, none⟩ = some (.int .u64 (c 12)) := by rw [hSw.cell, csA_12, dq]
    clear hSw
    go_simp
    try with_reducible rfl
  try simp only [List.getElem_toArray, List.getElem_cons_succ, List.getElem_cons_zero, Act.put, List.setIfInBounds_toArray, List.set_cons_zero, List.set_cons_succ]
  refine wpAnyH_take (i := 3) (v := ?_) rfl (by kernel_rfl) (by kernel_rfl) (by kernel_rfl) (fun _ _ _ h => h) (Or.inl ⟨by rfl, ?_⟩) (by assumption) ?_
  rotate_left
  · intro wx hSw
    have hSc : wx.cell? ⟨w.heap.size, 12, none⟩ = some (.int .u64 (c 12)) := by rw [hSw.cell, csA_12, dq]
    clear hSw
    go_simp
    try with_reducible rfl
  try simp only [List.getElem_toArray, List.getElem_cons_succ, List.getElem_cons_zero, Act.put, List.setIfInBounds_toArray, List.set_cons_zero, List.set_cons_succ]
  refine wpAnyH_ready (rs := [4]) (by kernel_rfl) (by simp) ?_
  refine AllReadyH.cons rfl (fun K hK => ?_) AllReadyH.nil
  rw [if_pos (by rfl)]
  refine wp_store_row 24 (.tmp 2) (.tmp 20) rfl (w.heap.size + 1) (csA d) (by rfl) (by rfl) _ _ kz csInfo rfl (csA_one d) ?_
  have kl := kz.setRow (cs := csA d)
  have gl := (g3.drew1).setRow (b := w.heap.size + 1) (Nat.le_succ_of_le hgs) (csA d)
  have hl := (Blk.otherRow (g := w.heap.size + 1) (new := csA d) hHeld (by omega))
  refine hK.out _ _ hl (fun hHeld => ?_)
  clear hK K hl
  try simp only [List.getElem_toArray, List.getElem_cons_succ, List.getElem_cons_zero, Act.put, List.setIfInBounds_toArray, List.set_cons_zero, List.set_cons_succ]
  refine wpAnyH_take (i := 5) (v := ?_) rfl (by kernel_rfl) (by kernel_rfl) (by kernel_rfl) (fun _ _ _ h => h) (Or.inl ⟨by rfl, ?_⟩) (by assumption) ?_
  rotate_left
  · intro wx hSw
    have hSc : wx.cell? ⟨w.heap.size, 12, none⟩ = some (.int .u64 (c 12)) := by rw [hSw.cell, csA_12, dq]
    clear hSw
    go_simp
    try with_reducible rfl
  try simp only [List.getElem_toArray, List.getElem_cons_succ, List.getElem_cons_zero, Act.put, List.setIfInBounds_toArray, List.set_cons_zero, List.set_cons_succ]
  refine wpAnyH_take (i := 6) (v := ?_) rfl (by kernel_rfl) (by kernel_rfl) (by kernel_rfl) (fun _ _ _ h => h) (Or.inl ⟨by rfl, ?_⟩) (by assumption) ?_
  rotate_left
  · intro wx hSw
    have hSc : wx.cell? ⟨w.heap.size, 12, none⟩ = some (.int .u64 (c 12)) := by rw [hSw.cell, csA_12, dq]
    clear hSw
    go_simp
    try with_reducible rfl
  try simp only [List.getElem_toArray, List.getElem_cons_succ, List.getElem_cons_zero, Act.put, List.setIfInBounds_toArray, List.set_cons_zero, List.set_cons_succ]
  refine wpAnyH_done (by kernel_rfl) ?_ _
  try simp only [List.getElem_toArray, List.getElem_cons_succ, List.getElem_cons_zero, Act.put, List.setIfInBounds_toArray, List.set_cons_zero, List.set_cons_succ]
  go_wp2_with fail
  exact bodyPost_ret (v := .tuple #[csV d, .int .i64 (bitN s 8 : Nat), .int .u64 (c 12)]) (results_cs3 (p := 2) (q := 3) (r := 4) Tryd.results15 _ _ (w.heap.size + 1) kl rfl) rfl ⟨by rw [HD.out], gl⟩

end Go.Proofs.YtbkbbcfhmjodlaaDoor
