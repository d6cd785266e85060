/-
  Contracts of the document's own text about instructions: system, where bits 31-25 are not 9.
-/
import Derived.Test.YtgekmhcekkmdhaaDecV
set_option linter.unusedVariables false
set_option linter.unusedSimpArgs false
namespace Go.Proofs.Ytgekmhcekkmdhaa
open Go Go.RowKit

set_option maxRecDepth 100000 in
set_option maxHeartbeats 20000000 in
theorem sy_s_n (x : Nat) (hx : x < 4294967296) (hm : ∀ k, k < 5 → ¬ sysW.getD k 0 = x) (hf : fN x 14 12 = 0) (h9 : ¬ fN x 31 25 = 9) (rd s1 s2 : Int) {W w : World} (hg : Grew W w) :
    Calls Try.prog 53 #[.int .u32 (x : Nat), iNew rd s1 s2] w fun e w' => e = .returned (.tuple #[.agg #[.int .i64 11, .int .i64 5, .bool false, .int .i64 0, .int .i64 s1, .int .i64 s2, .int .u64 0], .bool false]) ∧ Grew W w' := by
  have gs1 : W.heap.size ≤ w.heap.size + 1 := Nat.le_succ_of_le hg.size
  have HL := Lib.hid hm
  clear hm
  have b14_12 := fN_lt x 14 12 8 (by decide)
  have b31_25 := fN_lt x 31 25 128 (by decide)
  have b31_20 := fN_lt x 31 20 4096 (by decide)
  have hf' : ((fN x 14 12 : Nat) : Int) = 0 := by omega
  have HF := Lib.hid hf'
  clear hf hf'
  have h9' : (((fN x 31 25 : Nat) : Int) == 9) = false := by rw [beq_eq_false_iff_ne]; omega
  clear h9
  go_enter Try.func53, Try.ntmps53
  go_upto_region 2 with fail
  have kW := u32_lit ((w.alloc (.cells #[.int .i64 0, .int .i64 0, .bool false, .int .i64 rd, .int .i64 s1, .int .i64 s2, .int .u64 0] 26)).alloc (.cells #[.int .i64 0, .int .i64 0, .bool false, .int .i64 0, .int .i64 0, .int .i64 0, .int .u64 0] 26)) sysW #[.int .u32 115, .int .u32 1048691, .int .u32 270532723, .int .u32 807403635, .int .u32 273678451] rfl (w.heap.size + 1 + 1) (by simp) 22
  have kI := ((Blk.new w #[.int .i64 0, .int .i64 0, .bool false, .int .i64 rd, .int .i64 s1, .int .i64 s2, .int .u64 0] 26 w.heap.size rfl).alloc (.cells #[.int .i64 0, .int .i64 0, .bool false, .int .i64 0, .int .i64 0, .int .i64 0, .int .u64 0] 26)).alloc (.cells #[.int .u32 115, .int .u32 1048691, .int .u32 270532723, .int .u32 807403635, .int .u32 273678451] 22)
  have kR := (Blk.new (w.alloc (.cells #[.int .i64 0, .int .i64 0, .bool false, .int .i64 rd, .int .i64 s1, .int .i64 s2, .int .u64 0] 26)) #[.int .i64 0, .int .i64 0, .bool false, .int .i64 0, .int .i64 0, .int .i64 0, .int .u64 0] 26 (w.heap.size + 1) (by simp)).alloc (.cells #[.int .u32 115, .int .u32 1048691, .int .u32 270532723, .int .u32 807403635, .int .u32 273678451] 22)
  have gb := ((hg.alloc (.cells #[.int .i64 0, .int .i64 0, .bool false, .int .i64 rd, .int .i64 s1, .int .i64 s2, .int .u64 0] 26)).alloc (.cells #[.int .i64 0, .int .i64 0, .bool false, .int .i64 0, .int .i64 0, .int .i64 0, .int .u64 0] 26)).alloc (.cells #[.int .u32 115, .int .u32 1048691, .int .u32 270532723, .int .u32 807403635, .int .u32 273678451] 22)
  generalize ((w.alloc (.cells #[.int .i64 0, .int .i64 0, .bool false, .int .i64 rd, .int .i64 s1, .int .i64 s2, .int .u64 0] 26)).alloc (.cells #[.int .i64 0, .int .i64 0, .bool false, .int .i64 0, .int .i64 0, .int .i64 0, .int .u64 0] 26)).alloc (.cells #[.int .u32 115, .int .u32 1048691, .int .u32 270532723, .int .u32 807403635, .int .u32 273678451] 22) = wb at *
  have i0 : wb.cell? ⟨w.heap.size, 0, none⟩ = some (.int .i64 0) := kI.cell 0
  have i1 : wb.cell? ⟨w.heap.size, 1, none⟩ = some (.int .i64 0) := kI.cell 1
  have i2 : wb.cell? ⟨w.heap.size, 2, none⟩ = some (.bool false) := kI.cell 2
  have i3 : wb.cell? ⟨w.heap.size, 3, none⟩ = some (.int .i64 rd) := kI.cell 3
  have i4 : wb.cell? ⟨w.heap.size, 4, none⟩ = some (.int .i64 s1) := kI.cell 4
  have i5 : wb.cell? ⟨w.heap.size, 5, none⟩ = some (.int .i64 s2) := kI.cell 5
  have i6 : wb.cell? ⟨w.heap.size, 6, none⟩ = some (.int .u64 0) := kI.cell 6
  have r0 : wb.cell? ⟨w.heap.size + 1, 0, none⟩ = some (.int .i64 0) := kR.cell 0
  have r1 : wb.cell? ⟨w.heap.size + 1, 1, none⟩ = some (.int .i64 0) := kR.cell 1
  have r2 : wb.cell? ⟨w.heap.size + 1, 2, none⟩ = some (.bool false) := kR.cell 2
  have r3 : wb.cell? ⟨w.heap.size + 1, 3, none⟩ = some (.int .i64 0) := kR.cell 3
  have r4 : wb.cell? ⟨w.heap.size + 1, 4, none⟩ = some (.int .i64 0) := kR.cell 4
  have r5 : wb.cell? ⟨w.heap.size + 1, 5, none⟩ = some (.int .i64 0) := kR.cell 5
  have r6 : wb.cell? ⟨w.heap.size + 1, 6, none⟩ = some (.int .u64 0) := kR.cell 6
  have fr : ∀ o, wb.frozen? ⟨w.heap.size + 1, o, none⟩ = false := kR.free
  have hI := kI.lt
  have hR := kR.lt
  have KW := Lib.hid kW
  have KR := Lib.hid kR
  clear kW kI kR
  go_wp2_with fail
  go_loop [7] (fun i => ∃ k : Nat, k ≤ 5 ∧ i = .int .i64 k) (fun i => 5 - (intOf i).toNat)
  case atStart => exact ⟨0, Nat.zero_le _, rfl⟩
  case round =>
    obtain ⟨k, hk, rfl⟩ := hrel
    by_cases he : k < 5
    · have k5 : (k : Int) < 5 := by omega
      have hcell := KW.out k (by show k < 5; omega)
      have hne : (((sysW.getD k 0 : Nat) : Int) == (x : Int)) = false := by
        have := HL.out k he
        rw [beq_eq_false_iff_ne]
        omega
      generalize sysW.getD k 0 = c at *
      go_wp2_with fail
      go_round
      case rel => exact ⟨k + 1, by omega, by go_num⟩
      case measure => simp [intOf]; omega
    · obtain rfl : k = 5 := by omega
      clear hk he
      have hsz : W.heap.size ≤ wb.heap.size := gb.size
      go_wp2_with fail
      refine (r3f x hx 14 12 (by decide) (by decide) (by decide) _).mono ?_
      rintro e w1 ⟨rfl, h1⟩
      obtain rfl := h1.symm
      rw [HF.out]
      go_wp2_with fail
      have hw14 := wi14 x
      refine wp_region_held_drew (S := (fun w' => w'.cell? ⟨w.heap.size, 3, none⟩ = some (.int .i64 rd) ∧ w'.cell? ⟨w.heap.size, 4, none⟩ = some (.int .i64 s1) ∧ w'.cell? ⟨w.heap.size, 5, none⟩ = some (.int .i64 s2))) (by kernel_rfl) (by go_keep) (fun hHeld => ?_)
      refine wpAnyH_take (i := 0) (v := ?_) rfl (by kernel_rfl) (by kernel_rfl) (by kernel_rfl) (fun _ _ _ h => h) (Or.inl ⟨by rfl, ?_⟩) (by assumption) ?_
      rotate_left
      · intro w hSw; (try dsimp only at hSw); go_simp
        try with_reducible rfl
      try simp only [Act.put, List.setIfInBounds_toArray, List.set_cons_zero, List.set_cons_succ]
      refine wpAnyH_take (i := 1) (v := ?_) rfl (by kernel_rfl) (by kernel_rfl) (by kernel_rfl) (fun _ _ _ h => h) (Or.inl ⟨by rfl, ?_⟩) (by assumption) ?_
      rotate_left
      · intro w hSw; (try dsimp only at hSw); go_simp
        try with_reducible rfl
      try simp only [Act.put, List.setIfInBounds_toArray, List.set_cons_zero, List.set_cons_succ]
      refine wpAnyH_take (i := 2) (v := ?_) rfl (by kernel_rfl) (by kernel_rfl) (by kernel_rfl) (fun _ _ _ h => h) (Or.inl ⟨by rfl, ?_⟩) (by assumption) ?_
      rotate_left
      · intro w hSw; (try dsimp only at hSw); go_simp
        try with_reducible rfl
      try simp only [Act.put, List.setIfInBounds_toArray, List.set_cons_zero, List.set_cons_succ]
      refine wpAnyH_take (i := 3) (v := ?_) rfl (by kernel_rfl) (by kernel_rfl) (by kernel_rfl) (fun _ _ _ h => h) (Or.inl ⟨by rfl, ?_⟩) (by assumption) ?_
      rotate_left
      · intro w hSw; (try dsimp only at hSw); go_simp
        try with_reducible rfl
      try simp only [Act.put, List.setIfInBounds_toArray, List.set_cons_zero, List.set_cons_succ]
      refine wpAnyH_take (i := 4) (v := ?_) rfl (by kernel_rfl) (by kernel_rfl) (by kernel_rfl) (fun _ _ _ h => h) (Or.inl ⟨by rfl, ?_⟩) (by assumption) ?_
      rotate_left
      · intro w hSw; (try dsimp only at hSw); go_simp
        try with_reducible rfl
      try simp only [Act.put, List.setIfInBounds_toArray, List.set_cons_zero, List.set_cons_succ]
      refine wpAnyH_take (i := 5) (v := ?_) rfl (by kernel_rfl) (by kernel_rfl) (by kernel_rfl) (fun _ _ _ h => h) (Or.inl ⟨by rfl, ?_⟩) (by assumption) ?_
      rotate_left
      · intro w hSw; (try dsimp only at hSw); go_simp
        try with_reducible rfl
      try simp only [Act.put, List.setIfInBounds_toArray, List.set_cons_zero, List.set_cons_succ]
      refine wpAnyH_ready (rs := [6]) (by kernel_rfl) (by simp) ?_
      refine AllReadyH.cons rfl (fun K hK => ?_) AllReadyH.nil
      · skip
        go_simp
        go_at_call 49
        refine (r3f x hx _ _ (by decide) (by decide) (by decide) _).mono ?_
        rintro e w' ⟨rfl, h'⟩
        obtain rfl := h'.symm
        go_wp2_with fail
        refine hK.out _ _ (by first | assumption | go_keep) (fun hHeld => ?_)
        clear hK K
        try simp only [Act.put, List.setIfInBounds_toArray, List.set_cons_zero, List.set_cons_succ]
        refine wpAnyH_take (i := 7) (v := ?_) rfl (by kernel_rfl) (by kernel_rfl) (by kernel_rfl) (fun _ _ _ h => h) (Or.inl ⟨by rfl, ?_⟩) (by assumption) ?_
        rotate_left
        · intro w hSw; (try dsimp only at hSw); go_simp
          try with_reducible rfl
        try simp only [Act.put, List.setIfInBounds_toArray, List.set_cons_zero, List.set_cons_succ]
        refine wpAnyH_take (i := 8) (v := ?_) rfl (by kernel_rfl) (by kernel_rfl) (by kernel_rfl) (fun _ _ _ h => h) (Or.inl ⟨by rfl, ?_⟩) (by assumption) ?_
        rotate_left
        · intro w hSw; (try dsimp only at hSw); go_simp
          try with_reducible rfl
        try simp only [Act.put, List.setIfInBounds_toArray, List.set_cons_zero, List.set_cons_succ]
        refine wpAnyH_take (i := 9) (v := undef) rfl (by kernel_rfl) (by kernel_rfl) (by kernel_rfl) (fun _ _ _ h => h) (Or.inr ⟨by rfl, rfl⟩) (by assumption) ?_
        try simp only [Act.put, List.setIfInBounds_toArray, List.set_cons_zero, List.set_cons_succ]
        refine wpAnyH_take (i := 10) (v := undef) rfl (by kernel_rfl) (by kernel_rfl) (by kernel_rfl) (fun _ _ _ h => h) (Or.inr ⟨by rfl, rfl⟩) (by assumption) ?_
        try simp only [Act.put, List.setIfInBounds_toArray, List.set_cons_zero, List.set_cons_succ]
        refine wpAnyH_take (i := 11) (v := undef) rfl (by kernel_rfl) (by kernel_rfl) (by kernel_rfl) (fun _ _ _ h => h) (Or.inr ⟨by rfl, rfl⟩) (by assumption) ?_
        try simp only [Act.put, List.setIfInBounds_toArray, List.set_cons_zero, List.set_cons_succ]
        refine wpAnyH_take (i := 12) (v := ?_) rfl (by kernel_rfl) (by kernel_rfl) (by kernel_rfl) (fun _ _ _ h => h) (Or.inl ⟨by rfl, ?_⟩) (by assumption) ?_
        rotate_left
        · intro w hSw; (try dsimp only at hSw); go_simp
          try with_reducible rfl
        try simp only [Act.put, List.setIfInBounds_toArray, List.set_cons_zero, List.set_cons_succ]
        refine wpAnyH_ready (rs := [13]) (by kernel_rfl) (by simp) ?_
        refine AllReadyH.cons rfl (fun K hK => ?_) AllReadyH.nil
        go_simp
        refine hK.out _ _ (by go_keep) (fun hHeld => ?_)
        clear hK K
        try simp only [Act.put, List.setIfInBounds_toArray, List.set_cons_zero, List.set_cons_succ]
        refine wpAnyH_take (i := 14) (v := ?_) rfl (by kernel_rfl) (by kernel_rfl) (by kernel_rfl) (fun _ _ _ h => h) (Or.inl ⟨by rfl, ?_⟩) (by assumption) ?_
        rotate_left
        · intro w hSw; (try dsimp only at hSw); go_simp
          try with_reducible rfl
        simp only [List.getElem_toArray, List.getElem_cons_succ, List.getElem_cons_zero, Act.put, List.setIfInBounds_toArray, List.set_cons_zero, List.set_cons_succ]
        refine wpAnyH_done (by kernel_rfl) ?_ _
        try simp only [List.getElem_toArray, List.getElem_cons_succ, List.getElem_cons_zero, Act.put, List.setIfInBounds_toArray, List.set_cons_zero, List.set_cons_succ]
        go_wp2_with fail
        refine bodyPost_ret (v := .tuple #[.agg #[.int .i64 11, .int .i64 5, .bool false, .int .i64 0, .int .i64 s1, .int .i64 s2, .int .u64 0], .bool false]) (by simp [results, Try.results53, go_sem, r0, r1, r2, r3, r4, r5, r6]) rfl ⟨rfl, (by repeat (first | with_reducible exact gb | with_reducible refine Grew.alloc ?_ _ | with_reducible refine Grew.drewN ?_ _ | with_reducible refine Grew.drew1 ?_ | with_reducible refine Grew.setCell ?_ gs1 _))⟩
end Go.Proofs.Ytgekmhcekkmdhaa
