/-
  Contracts of the document's own text about instructions put together: word.
-/
import Derived.Test.YtgekmhcekkmdhaaDecPa
import Derived.Great.BuildSlice
set_option linter.unusedVariables false
set_option linter.unusedSimpArgs false
namespace Go.Proofs.Ytgekmhcekkmdhaa
open Go Go.RowKit

def wrdW : List Nat := [115, 1048691, 270532723, 807403635, 273678451]
/-- The document's word of an instruction, right or not. -/
def wdN (c f : Int) (d : Bool) (rd s1 s2 m : Nat) : Nat :=
  if c = 1 then putN 55 0 0 rd s1 s2 ||| m / 4096 % 1048576 * 4096
  else if c = 2 then putN 23 0 0 rd s1 s2 ||| m / 4096 % 1048576 * 4096
  else if c = 3 then putN 111 0 0 rd s1 s2 ||| jmpN m
  else if c = 4 then putN 103 0 0 rd s1 s2 ||| i12N m
  else if c = 5 then putN 99 (flN f 32) 0 rd s1 s2 ||| brcN m
  else if c = 6 then putN 3 (flN f 32) 0 rd s1 s2 ||| i12N m
  else if c = 7 then putN 35 (flN f 32) (m / 32 % 128) rd s1 s2 ||| m % 32 * 128
  else if c = 8 then (if f = 13 then putN (if d then 27 else 19) 5 32 rd s1 s2 ||| m % 64 * 1048576 else putN (if d then 27 else 19) (flN f 32) 0 rd s1 s2 ||| i12N m)
  else if c = 9 then sumN f d rd s1 s2
  else if c = 10 then putN 15 (flN f 32) 0 rd s1 s2
  else if c = 11 then (if f = 5 then putN 115 0 9 rd s1 s2 else if 0 ≤ f ∧ f < 5 then wrdW.getD f.toNat 0 else 0)
  else if c = 12 then putN 115 (flN f 32) 0 rd s1 s2 ||| i12N m
  else if c = 13 then putN 47 (if d then 2 else 3) (flN f 32 * 4) rd s1 s2
  else 0
theorem tmodc (x k : Nat) : (x : Int).tmod (no_index (OfNat.ofNat k) : Int) = ((x % (OfNat.ofNat k : Nat) : Nat) : Int) := rfl
theorem jmpN_lt (m : Nat) : jmpN m < 4294967296 := by unfold jmpN; refine or32_lt (or32_lt (or32_lt ?_ ?_) ?_) ?_ <;> omega
theorem brcN_lt (m : Nat) : brcN m < 4294967296 := by unfold brcN; refine or32_lt (or32_lt (or32_lt ?_ ?_) ?_) ?_ <;> omega
theorem i12N_lt (m : Nat) : i12N m < 4294967296 := by unfold i12N; omega
set_option maxRecDepth 100000 in
set_option maxHeartbeats 2000000 in
theorem wd_1 (f : Int) (d : Bool) (rd s1 s2 m : Nat) (h4 : rd < 32) (h5 : s1 < 32) (h6 : s2 < 32) (hm : m < 18446744073709551616) {W w : World} (hg : Grew W w) :
    Calls Try.prog 31 #[iP 1 f d rd s1 s2 m] w fun e w' => e = .returned (.int .u64 (putN 55 0 0 rd s1 s2 ||| m / 4096 % 1048576 * 4096 : Nat)) ∧ Grew W w' := by
  have ga := hg.alloc (.cells #[.int .i64 1, .int .i64 f, .bool d, .int .i64 (rd : Nat), .int .i64 (s1 : Nat), .int .i64 (s2 : Nat), .int .u64 (m : Nat)] 26)
  have ka := Blk.new w #[.int .i64 1, .int .i64 f, .bool d, .int .i64 (rd : Nat), .int .i64 (s1 : Nat), .int .i64 (s2 : Nat), .int .u64 (m : Nat)] 26 w.heap.size rfl
  have hk := fl32 f
  have k32 : flN f 32 < 32 := flN_lt f 32 (by decide)
  generalize flN f 32 = q at *
  go_enter Try.func31, Try.ntmps31
  go_upto_region 4 with fail
  generalize w.alloc (.cells #[.int .i64 1, .int .i64 f, .bool d, .int .i64 (rd : Nat), .int .i64 (s1 : Nat), .int .i64 (s2 : Nat), .int .u64 (m : Nat)] 26) = wa at *
  have c0 : wa.cell? ⟨w.heap.size, 0, none⟩ = some (.int .i64 1) := ka.cell 0
  have c1 : wa.cell? ⟨w.heap.size, 1, none⟩ = some (.int .i64 f) := ka.cell 1
  have c2 : wa.cell? ⟨w.heap.size, 2, none⟩ = some (.bool d) := ka.cell 2
  have c3 : wa.cell? ⟨w.heap.size, 3, none⟩ = some (.int .i64 (rd : Nat)) := ka.cell 3
  have c4 : wa.cell? ⟨w.heap.size, 4, none⟩ = some (.int .i64 (s1 : Nat)) := ka.cell 4
  have c5 : wa.cell? ⟨w.heap.size, 5, none⟩ = some (.int .i64 (s2 : Nat)) := ka.cell 5
  have c6 : wa.cell? ⟨w.heap.size, 6, none⟩ = some (.int .u64 (m : Nat)) := ka.cell 6
  have hsa := ka.lt
  clear ka
  have p1 := putN_lt 55 0 0 rd s1 s2 (by decide) (by decide) (by decide) h4 h5 h6
  have p2 := i12N_lt m
  have p3 := jmpN_lt m
  have p4 := brcN_lt m
  (first | go_region_held3 (fun w' => w'.cell? ⟨w.heap.size, 0, none⟩ = some (.int .i64 1) ∧ w'.cell? ⟨w.heap.size, 1, none⟩ = some (.int .i64 f) ∧ w'.cell? ⟨w.heap.size, 2, none⟩ = some (.bool d) ∧ w'.cell? ⟨w.heap.size, 3, none⟩ = some (.int .i64 (rd : Nat)) ∧ w'.cell? ⟨w.heap.size, 4, none⟩ = some (.int .i64 (s1 : Nat)) ∧ w'.cell? ⟨w.heap.size, 5, none⟩ = some (.int .i64 (s2 : Nat)) ∧ w'.cell? ⟨w.heap.size, 6, none⟩ = some (.int .u64 (m : Nat))) (go_keep) (first | (go_at_call 59; refine (put_c 55 0 0 1 f d rd s1 s2 m (by decide) (by decide) (by decide) h4 h5 h6 (Grew.refl _)).mono ?_; rintro e w5 ⟨rfl, g5⟩; have g35 := (Grew.refl wa).drew1.trans g5; have y0 : w5.cell? ⟨w.heap.size, 0, none⟩ = some (.int .i64 1) := (by rw [(gcell g35).1 _ _ hsa]; exact c0); have y1 : w5.cell? ⟨w.heap.size, 1, none⟩ = some (.int .i64 f) := (by rw [(gcell g35).1 _ _ hsa]; exact c1); have y2 : w5.cell? ⟨w.heap.size, 2, none⟩ = some (.bool d) := (by rw [(gcell g35).1 _ _ hsa]; exact c2); have y3 : w5.cell? ⟨w.heap.size, 3, none⟩ = some (.int .i64 (rd : Nat)) := (by rw [(gcell g35).1 _ _ hsa]; exact c3); have y4 : w5.cell? ⟨w.heap.size, 4, none⟩ = some (.int .i64 (s1 : Nat)) := (by rw [(gcell g35).1 _ _ hsa]; exact c4); have y5 : w5.cell? ⟨w.heap.size, 5, none⟩ = some (.int .i64 (s2 : Nat)) := (by rw [(gcell g35).1 _ _ hsa]; exact c5); have y6 : w5.cell? ⟨w.heap.size, 6, none⟩ = some (.int .u64 (m : Nat)) := (by rw [(gcell g35).1 _ _ hsa]; exact c6))) | fail)
  all_goals (
  go_wp2_with fail
  go_ret
  refine ⟨ret_u64 ?_, ga.trans g35⟩
  first | rfl | (simp (disch := (repeat (first | omega | apply or64_lt))) only [mulc, divc, modc, tmodc, or64, or64_lit, wrap64c]))
set_option maxRecDepth 100000 in
set_option maxHeartbeats 2000000 in
theorem wd_2 (f : Int) (d : Bool) (rd s1 s2 m : Nat) (h4 : rd < 32) (h5 : s1 < 32) (h6 : s2 < 32) (hm : m < 18446744073709551616) {W w : World} (hg : Grew W w) :
    Calls Try.prog 31 #[iP 2 f d rd s1 s2 m] w fun e w' => e = .returned (.int .u64 (putN 23 0 0 rd s1 s2 ||| m / 4096 % 1048576 * 4096 : Nat)) ∧ Grew W w' := by
  have ga := hg.alloc (.cells #[.int .i64 2, .int .i64 f, .bool d, .int .i64 (rd : Nat), .int .i64 (s1 : Nat), .int .i64 (s2 : Nat), .int .u64 (m : Nat)] 26)
  have ka := Blk.new w #[.int .i64 2, .int .i64 f, .bool d, .int .i64 (rd : Nat), .int .i64 (s1 : Nat), .int .i64 (s2 : Nat), .int .u64 (m : Nat)] 26 w.heap.size rfl
  have hk := fl32 f
  have k32 : flN f 32 < 32 := flN_lt f 32 (by decide)
  generalize flN f 32 = q at *
  go_enter Try.func31, Try.ntmps31
  go_upto_region 6 with fail
  generalize w.alloc (.cells #[.int .i64 2, .int .i64 f, .bool d, .int .i64 (rd : Nat), .int .i64 (s1 : Nat), .int .i64 (s2 : Nat), .int .u64 (m : Nat)] 26) = wa at *
  have c0 : wa.cell? ⟨w.heap.size, 0, none⟩ = some (.int .i64 2) := ka.cell 0
  have c1 : wa.cell? ⟨w.heap.size, 1, none⟩ = some (.int .i64 f) := ka.cell 1
  have c2 : wa.cell? ⟨w.heap.size, 2, none⟩ = some (.bool d) := ka.cell 2
  have c3 : wa.cell? ⟨w.heap.size, 3, none⟩ = some (.int .i64 (rd : Nat)) := ka.cell 3
  have c4 : wa.cell? ⟨w.heap.size, 4, none⟩ = some (.int .i64 (s1 : Nat)) := ka.cell 4
  have c5 : wa.cell? ⟨w.heap.size, 5, none⟩ = some (.int .i64 (s2 : Nat)) := ka.cell 5
  have c6 : wa.cell? ⟨w.heap.size, 6, none⟩ = some (.int .u64 (m : Nat)) := ka.cell 6
  have hsa := ka.lt
  clear ka
  have p1 := putN_lt 23 0 0 rd s1 s2 (by decide) (by decide) (by decide) h4 h5 h6
  have p2 := i12N_lt m
  have p3 := jmpN_lt m
  have p4 := brcN_lt m
  (first | go_region_held3 (fun w' => w'.cell? ⟨w.heap.size, 0, none⟩ = some (.int .i64 2) ∧ w'.cell? ⟨w.heap.size, 1, none⟩ = some (.int .i64 f) ∧ w'.cell? ⟨w.heap.size, 2, none⟩ = some (.bool d) ∧ w'.cell? ⟨w.heap.size, 3, none⟩ = some (.int .i64 (rd : Nat)) ∧ w'.cell? ⟨w.heap.size, 4, none⟩ = some (.int .i64 (s1 : Nat)) ∧ w'.cell? ⟨w.heap.size, 5, none⟩ = some (.int .i64 (s2 : Nat)) ∧ w'.cell? ⟨w.heap.size, 6, none⟩ = some (.int .u64 (m : Nat))) (go_keep) (first | (go_at_call 59; refine (put_c 23 0 0 2 f d rd s1 s2 m (by decide) (by decide) (by decide) h4 h5 h6 (Grew.refl _)).mono ?_; rintro e w5 ⟨rfl, g5⟩; have g35 := (Grew.refl wa).drew1.trans g5; have y0 : w5.cell? ⟨w.heap.size, 0, none⟩ = some (.int .i64 2) := (by rw [(gcell g35).1 _ _ hsa]; exact c0); have y1 : w5.cell? ⟨w.heap.size, 1, none⟩ = some (.int .i64 f) := (by rw [(gcell g35).1 _ _ hsa]; exact c1); have y2 : w5.cell? ⟨w.heap.size, 2, none⟩ = some (.bool d) := (by rw [(gcell g35).1 _ _ hsa]; exact c2); have y3 : w5.cell? ⟨w.heap.size, 3, none⟩ = some (.int .i64 (rd : Nat)) := (by rw [(gcell g35).1 _ _ hsa]; exact c3); have y4 : w5.cell? ⟨w.heap.size, 4, none⟩ = some (.int .i64 (s1 : Nat)) := (by rw [(gcell g35).1 _ _ hsa]; exact c4); have y5 : w5.cell? ⟨w.heap.size, 5, none⟩ = some (.int .i64 (s2 : Nat)) := (by rw [(gcell g35).1 _ _ hsa]; exact c5); have y6 : w5.cell? ⟨w.heap.size, 6, none⟩ = some (.int .u64 (m : Nat)) := (by rw [(gcell g35).1 _ _ hsa]; exact c6))) | fail)
  all_goals (
  go_wp2_with fail
  go_ret
  refine ⟨ret_u64 ?_, ga.trans g35⟩
  first | rfl | (simp (disch := (repeat (first | omega | apply or64_lt))) only [mulc, divc, modc, tmodc, or64, or64_lit, wrap64c]))
set_option maxRecDepth 100000 in
set_option maxHeartbeats 2000000 in
theorem wd_3 (f : Int) (d : Bool) (rd s1 s2 m : Nat) (h4 : rd < 32) (h5 : s1 < 32) (h6 : s2 < 32) (hm : m < 18446744073709551616) {W w : World} (hg : Grew W w) :
    Calls Try.prog 31 #[iP 3 f d rd s1 s2 m] w fun e w' => e = .returned (.int .u64 (putN 111 0 0 rd s1 s2 ||| jmpN m : Nat)) ∧ Grew W w' := by
  have ga := hg.alloc (.cells #[.int .i64 3, .int .i64 f, .bool d, .int .i64 (rd : Nat), .int .i64 (s1 : Nat), .int .i64 (s2 : Nat), .int .u64 (m : Nat)] 26)
  have ka := Blk.new w #[.int .i64 3, .int .i64 f, .bool d, .int .i64 (rd : Nat), .int .i64 (s1 : Nat), .int .i64 (s2 : Nat), .int .u64 (m : Nat)] 26 w.heap.size rfl
  have hk := fl32 f
  have k32 : flN f 32 < 32 := flN_lt f 32 (by decide)
  generalize flN f 32 = q at *
  go_enter Try.func31, Try.ntmps31
  go_upto_region 8 with fail
  generalize w.alloc (.cells #[.int .i64 3, .int .i64 f, .bool d, .int .i64 (rd : Nat), .int .i64 (s1 : Nat), .int .i64 (s2 : Nat), .int .u64 (m : Nat)] 26) = wa at *
  have c0 : wa.cell? ⟨w.heap.size, 0, none⟩ = some (.int .i64 3) := ka.cell 0
  have c1 : wa.cell? ⟨w.heap.size, 1, none⟩ = some (.int .i64 f) := ka.cell 1
  have c2 : wa.cell? ⟨w.heap.size, 2, none⟩ = some (.bool d) := ka.cell 2
  have c3 : wa.cell? ⟨w.heap.size, 3, none⟩ = some (.int .i64 (rd : Nat)) := ka.cell 3
  have c4 : wa.cell? ⟨w.heap.size, 4, none⟩ = some (.int .i64 (s1 : Nat)) := ka.cell 4
  have c5 : wa.cell? ⟨w.heap.size, 5, none⟩ = some (.int .i64 (s2 : Nat)) := ka.cell 5
  have c6 : wa.cell? ⟨w.heap.size, 6, none⟩ = some (.int .u64 (m : Nat)) := ka.cell 6
  have hsa := ka.lt
  clear ka
  have p1 := putN_lt 111 0 0 rd s1 s2 (by decide) (by decide) (by decide) h4 h5 h6
  have p2 := i12N_lt m
  have p3 := jmpN_lt m
  have p4 := brcN_lt m
  (first | go_region_held3 (fun w' => w'.cell? ⟨w.heap.size, 0, none⟩ = some (.int .i64 3) ∧ w'.cell? ⟨w.heap.size, 1, none⟩ = some (.int .i64 f) ∧ w'.cell? ⟨w.heap.size, 2, none⟩ = some (.bool d) ∧ w'.cell? ⟨w.heap.size, 3, none⟩ = some (.int .i64 (rd : Nat)) ∧ w'.cell? ⟨w.heap.size, 4, none⟩ = some (.int .i64 (s1 : Nat)) ∧ w'.cell? ⟨w.heap.size, 5, none⟩ = some (.int .i64 (s2 : Nat)) ∧ w'.cell? ⟨w.heap.size, 6, none⟩ = some (.int .u64 (m : Nat))) (go_keep) (first | (go_at_call 59; refine (put_c 111 0 0 3 f d rd s1 s2 m (by decide) (by decide) (by decide) h4 h5 h6 (Grew.refl _)).mono ?_; rintro e w5 ⟨rfl, g5⟩; have g35 := (Grew.refl wa).drew1.trans g5; have y0 : w5.cell? ⟨w.heap.size, 0, none⟩ = some (.int .i64 3) := (by rw [(gcell g35).1 _ _ hsa]; exact c0); have y1 : w5.cell? ⟨w.heap.size, 1, none⟩ = some (.int .i64 f) := (by rw [(gcell g35).1 _ _ hsa]; exact c1); have y2 : w5.cell? ⟨w.heap.size, 2, none⟩ = some (.bool d) := (by rw [(gcell g35).1 _ _ hsa]; exact c2); have y3 : w5.cell? ⟨w.heap.size, 3, none⟩ = some (.int .i64 (rd : Nat)) := (by rw [(gcell g35).1 _ _ hsa]; exact c3); have y4 : w5.cell? ⟨w.heap.size, 4, none⟩ = some (.int .i64 (s1 : Nat)) := (by rw [(gcell g35).1 _ _ hsa]; exact c4); have y5 : w5.cell? ⟨w.heap.size, 5, none⟩ = some (.int .i64 (s2 : Nat)) := (by rw [(gcell g35).1 _ _ hsa]; exact c5); have y6 : w5.cell? ⟨w.heap.size, 6, none⟩ = some (.int .u64 (m : Nat)) := (by rw [(gcell g35).1 _ _ hsa]; exact c6)) | (go_at_call 60; refine (jump_c m hm _).mono ?_; rintro e w' ⟨rfl, h'⟩; obtain rfl := h'.symm)) | fail)
  all_goals (
  go_wp2_with fail
  go_ret
  refine ⟨ret_u64 ?_, ga.trans g35⟩
  first | rfl | (simp (disch := (repeat (first | omega | apply or64_lt))) only [mulc, divc, modc, tmodc, or64, or64_lit, wrap64c]))
set_option maxRecDepth 100000 in
set_option maxHeartbeats 2000000 in
theorem wd_4 (f : Int) (d : Bool) (rd s1 s2 m : Nat) (h4 : rd < 32) (h5 : s1 < 32) (h6 : s2 < 32) (hm : m < 18446744073709551616) {W w : World} (hg : Grew W w) :
    Calls Try.prog 31 #[iP 4 f d rd s1 s2 m] w fun e w' => e = .returned (.int .u64 (putN 103 0 0 rd s1 s2 ||| i12N m : Nat)) ∧ Grew W w' := by
  have ga := hg.alloc (.cells #[.int .i64 4, .int .i64 f, .bool d, .int .i64 (rd : Nat), .int .i64 (s1 : Nat), .int .i64 (s2 : Nat), .int .u64 (m : Nat)] 26)
  have ka := Blk.new w #[.int .i64 4, .int .i64 f, .bool d, .int .i64 (rd : Nat), .int .i64 (s1 : Nat), .int .i64 (s2 : Nat), .int .u64 (m : Nat)] 26 w.heap.size rfl
  have hk := fl32 f
  have k32 : flN f 32 < 32 := flN_lt f 32 (by decide)
  generalize flN f 32 = q at *
  go_enter Try.func31, Try.ntmps31
  go_upto_region 10 with fail
  generalize w.alloc (.cells #[.int .i64 4, .int .i64 f, .bool d, .int .i64 (rd : Nat), .int .i64 (s1 : Nat), .int .i64 (s2 : Nat), .int .u64 (m : Nat)] 26) = wa at *
  have c0 : wa.cell? ⟨w.heap.size, 0, none⟩ = some (.int .i64 4) := ka.cell 0
  have c1 : wa.cell? ⟨w.heap.size, 1, none⟩ = some (.int .i64 f) := ka.cell 1
  have c2 : wa.cell? ⟨w.heap.size, 2, none⟩ = some (.bool d) := ka.cell 2
  have c3 : wa.cell? ⟨w.heap.size, 3, none⟩ = some (.int .i64 (rd : Nat)) := ka.cell 3
  have c4 : wa.cell? ⟨w.heap.size, 4, none⟩ = some (.int .i64 (s1 : Nat)) := ka.cell 4
  have c5 : wa.cell? ⟨w.heap.size, 5, none⟩ = some (.int .i64 (s2 : Nat)) := ka.cell 5
  have c6 : wa.cell? ⟨w.heap.size, 6, none⟩ = some (.int .u64 (m : Nat)) := ka.cell 6
  have hsa := ka.lt
  clear ka
  have p1 := putN_lt 103 0 0 rd s1 s2 (by decide) (by decide) (by decide) h4 h5 h6
  have p2 := i12N_lt m
  have p3 := jmpN_lt m
  have p4 := brcN_lt m
  (first | go_region_held3 (fun w' => w'.cell? ⟨w.heap.size, 0, none⟩ = some (.int .i64 4) ∧ w'.cell? ⟨w.heap.size, 1, none⟩ = some (.int .i64 f) ∧ w'.cell? ⟨w.heap.size, 2, none⟩ = some (.bool d) ∧ w'.cell? ⟨w.heap.size, 3, none⟩ = some (.int .i64 (rd : Nat)) ∧ w'.cell? ⟨w.heap.size, 4, none⟩ = some (.int .i64 (s1 : Nat)) ∧ w'.cell? ⟨w.heap.size, 5, none⟩ = some (.int .i64 (s2 : Nat)) ∧ w'.cell? ⟨w.heap.size, 6, none⟩ = some (.int .u64 (m : Nat))) (go_keep) (first | (go_at_call 59; refine (put_c 103 0 0 4 f d rd s1 s2 m (by decide) (by decide) (by decide) h4 h5 h6 (Grew.refl _)).mono ?_; rintro e w5 ⟨rfl, g5⟩; have g35 := (Grew.refl wa).drew1.trans g5; have y0 : w5.cell? ⟨w.heap.size, 0, none⟩ = some (.int .i64 4) := (by rw [(gcell g35).1 _ _ hsa]; exact c0); have y1 : w5.cell? ⟨w.heap.size, 1, none⟩ = some (.int .i64 f) := (by rw [(gcell g35).1 _ _ hsa]; exact c1); have y2 : w5.cell? ⟨w.heap.size, 2, none⟩ = some (.bool d) := (by rw [(gcell g35).1 _ _ hsa]; exact c2); have y3 : w5.cell? ⟨w.heap.size, 3, none⟩ = some (.int .i64 (rd : Nat)) := (by rw [(gcell g35).1 _ _ hsa]; exact c3); have y4 : w5.cell? ⟨w.heap.size, 4, none⟩ = some (.int .i64 (s1 : Nat)) := (by rw [(gcell g35).1 _ _ hsa]; exact c4); have y5 : w5.cell? ⟨w.heap.size, 5, none⟩ = some (.int .i64 (s2 : Nat)) := (by rw [(gcell g35).1 _ _ hsa]; exact c5); have y6 : w5.cell? ⟨w.heap.size, 6, none⟩ = some (.int .u64 (m : Nat)) := (by rw [(gcell g35).1 _ _ hsa]; exact c6)) | (go_at_call 61; refine (imm12_c 4 f d rd s1 s2 m hm (Grew.refl _)).mono ?_; rintro e w6 ⟨rfl, g6⟩; have g36 := g35.trans g6; have z0 : w6.cell? ⟨w.heap.size, 0, none⟩ = some (.int .i64 4) := (by rw [(gcell g36).1 _ _ hsa]; exact c0); have z1 : w6.cell? ⟨w.heap.size, 1, none⟩ = some (.int .i64 f) := (by rw [(gcell g36).1 _ _ hsa]; exact c1); have z2 : w6.cell? ⟨w.heap.size, 2, none⟩ = some (.bool d) := (by rw [(gcell g36).1 _ _ hsa]; exact c2); have z3 : w6.cell? ⟨w.heap.size, 3, none⟩ = some (.int .i64 (rd : Nat)) := (by rw [(gcell g36).1 _ _ hsa]; exact c3); have z4 : w6.cell? ⟨w.heap.size, 4, none⟩ = some (.int .i64 (s1 : Nat)) := (by rw [(gcell g36).1 _ _ hsa]; exact c4); have z5 : w6.cell? ⟨w.heap.size, 5, none⟩ = some (.int .i64 (s2 : Nat)) := (by rw [(gcell g36).1 _ _ hsa]; exact c5); have z6 : w6.cell? ⟨w.heap.size, 6, none⟩ = some (.int .u64 (m : Nat)) := (by rw [(gcell g36).1 _ _ hsa]; exact c6))) | fail)
  all_goals (
  go_wp2_with fail
  go_ret
  refine ⟨ret_u64 ?_, ga.trans g36⟩
  first | rfl | (simp (disch := (repeat (first | omega | apply or64_lt))) only [mulc, divc, modc, tmodc, or64, or64_lit, wrap64c]))
set_option maxRecDepth 100000 in
set_option maxHeartbeats 2000000 in
theorem wd_5 (f : Int) (d : Bool) (rd s1 s2 m : Nat) (h4 : rd < 32) (h5 : s1 < 32) (h6 : s2 < 32) (hm : m < 18446744073709551616) {W w : World} (hg : Grew W w) :
    Calls Try.prog 31 #[iP 5 f d rd s1 s2 m] w fun e w' => e = .returned (.int .u64 (putN 99 (flN f 32) 0 rd s1 s2 ||| brcN m : Nat)) ∧ Grew W w' := by
  have ga := hg.alloc (.cells #[.int .i64 5, .int .i64 f, .bool d, .int .i64 (rd : Nat), .int .i64 (s1 : Nat), .int .i64 (s2 : Nat), .int .u64 (m : Nat)] 26)
  have ka := Blk.new w #[.int .i64 5, .int .i64 f, .bool d, .int .i64 (rd : Nat), .int .i64 (s1 : Nat), .int .i64 (s2 : Nat), .int .u64 (m : Nat)] 26 w.heap.size rfl
  have hk := fl32 f
  have k32 : flN f 32 < 32 := flN_lt f 32 (by decide)
  generalize flN f 32 = q at *
  go_enter Try.func31, Try.ntmps31
  go_upto_region 12 with fail
  generalize w.alloc (.cells #[.int .i64 5, .int .i64 f, .bool d, .int .i64 (rd : Nat), .int .i64 (s1 : Nat), .int .i64 (s2 : Nat), .int .u64 (m : Nat)] 26) = wa at *
  have c0 : wa.cell? ⟨w.heap.size, 0, none⟩ = some (.int .i64 5) := ka.cell 0
  have c1 : wa.cell? ⟨w.heap.size, 1, none⟩ = some (.int .i64 f) := ka.cell 1
  have c2 : wa.cell? ⟨w.heap.size, 2, none⟩ = some (.bool d) := ka.cell 2
  have c3 : wa.cell? ⟨w.heap.size, 3, none⟩ = some (.int .i64 (rd : Nat)) := ka.cell 3
  have c4 : wa.cell? ⟨w.heap.size, 4, none⟩ = some (.int .i64 (s1 : Nat)) := ka.cell 4
  have c5 : wa.cell? ⟨w.heap.size, 5, none⟩ = some (.int .i64 (s2 : Nat)) := ka.cell 5
  have c6 : wa.cell? ⟨w.heap.size, 6, none⟩ = some (.int .u64 (m : Nat)) := ka.cell 6
  have hsa := ka.lt
  clear ka
  have p1 := putN_lt 99 q 0 rd s1 s2 (by decide) k32 (by decide) h4 h5 h6
  have p2 := i12N_lt m
  have p3 := jmpN_lt m
  have p4 := brcN_lt m
  (first | go_region_held3 (fun w' => w'.cell? ⟨w.heap.size, 0, none⟩ = some (.int .i64 5) ∧ w'.cell? ⟨w.heap.size, 1, none⟩ = some (.int .i64 f) ∧ w'.cell? ⟨w.heap.size, 2, none⟩ = some (.bool d) ∧ w'.cell? ⟨w.heap.size, 3, none⟩ = some (.int .i64 (rd : Nat)) ∧ w'.cell? ⟨w.heap.size, 4, none⟩ = some (.int .i64 (s1 : Nat)) ∧ w'.cell? ⟨w.heap.size, 5, none⟩ = some (.int .i64 (s2 : Nat)) ∧ w'.cell? ⟨w.heap.size, 6, none⟩ = some (.int .u64 (m : Nat))) (go_keep) (first | (go_at_call 59; refine (put_c 99 q 0 5 f d rd s1 s2 m (by decide) k32 (by decide) h4 h5 h6 (Grew.refl _)).mono ?_; rintro e w5 ⟨rfl, g5⟩; have g35 := (Grew.refl wa).drew1.trans g5; have y0 : w5.cell? ⟨w.heap.size, 0, none⟩ = some (.int .i64 5) := (by rw [(gcell g35).1 _ _ hsa]; exact c0); have y1 : w5.cell? ⟨w.heap.size, 1, none⟩ = some (.int .i64 f) := (by rw [(gcell g35).1 _ _ hsa]; exact c1); have y2 : w5.cell? ⟨w.heap.size, 2, none⟩ = some (.bool d) := (by rw [(gcell g35).1 _ _ hsa]; exact c2); have y3 : w5.cell? ⟨w.heap.size, 3, none⟩ = some (.int .i64 (rd : Nat)) := (by rw [(gcell g35).1 _ _ hsa]; exact c3); have y4 : w5.cell? ⟨w.heap.size, 4, none⟩ = some (.int .i64 (s1 : Nat)) := (by rw [(gcell g35).1 _ _ hsa]; exact c4); have y5 : w5.cell? ⟨w.heap.size, 5, none⟩ = some (.int .i64 (s2 : Nat)) := (by rw [(gcell g35).1 _ _ hsa]; exact c5); have y6 : w5.cell? ⟨w.heap.size, 6, none⟩ = some (.int .u64 (m : Nat)) := (by rw [(gcell g35).1 _ _ hsa]; exact c6)) | (go_at_call 62; refine (branch_c m hm _).mono ?_; rintro e w' ⟨rfl, h'⟩; obtain rfl := h'.symm)) | fail)
  all_goals (
  go_wp2_with fail
  go_ret
  refine ⟨ret_u64 ?_, ga.trans g35⟩
  first | rfl | (simp (disch := (repeat (first | omega | apply or64_lt))) only [mulc, divc, modc, tmodc, or64, or64_lit, wrap64c]))
set_option maxRecDepth 100000 in
set_option maxHeartbeats 2000000 in
theorem wd_6 (f : Int) (d : Bool) (rd s1 s2 m : Nat) (h4 : rd < 32) (h5 : s1 < 32) (h6 : s2 < 32) (hm : m < 18446744073709551616) {W w : World} (hg : Grew W w) :
    Calls Try.prog 31 #[iP 6 f d rd s1 s2 m] w fun e w' => e = .returned (.int .u64 (putN 3 (flN f 32) 0 rd s1 s2 ||| i12N m : Nat)) ∧ Grew W w' := by
  have ga := hg.alloc (.cells #[.int .i64 6, .int .i64 f, .bool d, .int .i64 (rd : Nat), .int .i64 (s1 : Nat), .int .i64 (s2 : Nat), .int .u64 (m : Nat)] 26)
  have ka := Blk.new w #[.int .i64 6, .int .i64 f, .bool d, .int .i64 (rd : Nat), .int .i64 (s1 : Nat), .int .i64 (s2 : Nat), .int .u64 (m : Nat)] 26 w.heap.size rfl
  have hk := fl32 f
  have k32 : flN f 32 < 32 := flN_lt f 32 (by decide)
  generalize flN f 32 = q at *
  go_enter Try.func31, Try.ntmps31
  go_upto_region 14 with fail
  generalize w.alloc (.cells #[.int .i64 6, .int .i64 f, .bool d, .int .i64 (rd : Nat), .int .i64 (s1 : Nat), .int .i64 (s2 : Nat), .int .u64 (m : Nat)] 26) = wa at *
  have c0 : wa.cell? ⟨w.heap.size, 0, none⟩ = some (.int .i64 6) := ka.cell 0
  have c1 : wa.cell? ⟨w.heap.size, 1, none⟩ = some (.int .i64 f) := ka.cell 1
  have c2 : wa.cell? ⟨w.heap.size, 2, none⟩ = some (.bool d) := ka.cell 2
  have c3 : wa.cell? ⟨w.heap.size, 3, none⟩ = some (.int .i64 (rd : Nat)) := ka.cell 3
  have c4 : wa.cell? ⟨w.heap.size, 4, none⟩ = some (.int .i64 (s1 : Nat)) := ka.cell 4
  have c5 : wa.cell? ⟨w.heap.size, 5, none⟩ = some (.int .i64 (s2 : Nat)) := ka.cell 5
  have c6 : wa.cell? ⟨w.heap.size, 6, none⟩ = some (.int .u64 (m : Nat)) := ka.cell 6
  have hsa := ka.lt
  clear ka
  have p1 := putN_lt 3 q 0 rd s1 s2 (by decide) k32 (by decide) h4 h5 h6
  have p2 := i12N_lt m
  have p3 := jmpN_lt m
  have p4 := brcN_lt m
  (first | go_region_held3 (fun w' => w'.cell? ⟨w.heap.size, 0, none⟩ = some (.int .i64 6) ∧ w'.cell? ⟨w.heap.size, 1, none⟩ = some (.int .i64 f) ∧ w'.cell? ⟨w.heap.size, 2, none⟩ = some (.bool d) ∧ w'.cell? ⟨w.heap.size, 3, none⟩ = some (.int .i64 (rd : Nat)) ∧ w'.cell? ⟨w.heap.size, 4, none⟩ = some (.int .i64 (s1 : Nat)) ∧ w'.cell? ⟨w.heap.size, 5, none⟩ = some (.int .i64 (s2 : Nat)) ∧ w'.cell? ⟨w.heap.size, 6, none⟩ = some (.int .u64 (m : Nat))) (go_keep) (first | (go_at_call 59; refine (put_c 3 q 0 6 f d rd s1 s2 m (by decide) k32 (by decide) h4 h5 h6 (Grew.refl _)).mono ?_; rintro e w5 ⟨rfl, g5⟩; have g35 := (Grew.refl wa).drew1.trans g5; have y0 : w5.cell? ⟨w.heap.size, 0, none⟩ = some (.int .i64 6) := (by rw [(gcell g35).1 _ _ hsa]; exact c0); have y1 : w5.cell? ⟨w.heap.size, 1, none⟩ = some (.int .i64 f) := (by rw [(gcell g35).1 _ _ hsa]; exact c1); have y2 : w5.cell? ⟨w.heap.size, 2, none⟩ = some (.bool d) := (by rw [(gcell g35).1 _ _ hsa]; exact c2); have y3 : w5.cell? ⟨w.heap.size, 3, none⟩ = some (.int .i64 (rd : Nat)) := (by rw [(gcell g35).1 _ _ hsa]; exact c3); have y4 : w5.cell? ⟨w.heap.size, 4, none⟩ = some (.int .i64 (s1 : Nat)) := (by rw [(gcell g35).1 _ _ hsa]; exact c4); have y5 : w5.cell? ⟨w.heap.size, 5, none⟩ = some (.int .i64 (s2 : Nat)) := (by rw [(gcell g35).1 _ _ hsa]; exact c5); have y6 : w5.cell? ⟨w.heap.size, 6, none⟩ = some (.int .u64 (m : Nat)) := (by rw [(gcell g35).1 _ _ hsa]; exact c6)) | (go_at_call 61; refine (imm12_c 6 f d rd s1 s2 m hm (Grew.refl _)).mono ?_; rintro e w6 ⟨rfl, g6⟩; have g36 := g35.trans g6; have z0 : w6.cell? ⟨w.heap.size, 0, none⟩ = some (.int .i64 6) := (by rw [(gcell g36).1 _ _ hsa]; exact c0); have z1 : w6.cell? ⟨w.heap.size, 1, none⟩ = some (.int .i64 f) := (by rw [(gcell g36).1 _ _ hsa]; exact c1); have z2 : w6.cell? ⟨w.heap.size, 2, none⟩ = some (.bool d) := (by rw [(gcell g36).1 _ _ hsa]; exact c2); have z3 : w6.cell? ⟨w.heap.size, 3, none⟩ = some (.int .i64 (rd : Nat)) := (by rw [(gcell g36).1 _ _ hsa]; exact c3); have z4 : w6.cell? ⟨w.heap.size, 4, none⟩ = some (.int .i64 (s1 : Nat)) := (by rw [(gcell g36).1 _ _ hsa]; exact c4); have z5 : w6.cell? ⟨w.heap.size, 5, none⟩ = some (.int .i64 (s2 : Nat)) := (by rw [(gcell g36).1 _ _ hsa]; exact c5); have z6 : w6.cell? ⟨w.heap.size, 6, none⟩ = some (.int .u64 (m : Nat)) := (by rw [(gcell g36).1 _ _ hsa]; exact c6))) | fail)
  all_goals (
  go_wp2_with fail
  go_ret
  refine ⟨ret_u64 ?_, ga.trans g36⟩
  first | rfl | (simp (disch := (repeat (first | omega | apply or64_lt))) only [mulc, divc, modc, tmodc, or64, or64_lit, wrap64c]))
set_option maxRecDepth 100000 in
set_option maxHeartbeats 2000000 in
theorem wd_7 (f : Int) (d : Bool) (rd s1 s2 m : Nat) (h4 : rd < 32) (h5 : s1 < 32) (h6 : s2 < 32) (hm : m < 18446744073709551616) {W w : World} (hg : Grew W w) :
    Calls Try.prog 31 #[iP 7 f d rd s1 s2 m] w fun e w' => e = .returned (.int .u64 (putN 35 (flN f 32) (m / 32 % 128) rd s1 s2 ||| m % 32 * 128 : Nat)) ∧ Grew W w' := by
  have ga := hg.alloc (.cells #[.int .i64 7, .int .i64 f, .bool d, .int .i64 (rd : Nat), .int .i64 (s1 : Nat), .int .i64 (s2 : Nat), .int .u64 (m : Nat)] 26)
  have ka := Blk.new w #[.int .i64 7, .int .i64 f, .bool d, .int .i64 (rd : Nat), .int .i64 (s1 : Nat), .int .i64 (s2 : Nat), .int .u64 (m : Nat)] 26 w.heap.size rfl
  have hk := fl32 f
  have k32 : flN f 32 < 32 := flN_lt f 32 (by decide)
  generalize flN f 32 = q at *
  go_enter Try.func31, Try.ntmps31
  go_upto_region 16 with fail
  generalize w.alloc (.cells #[.int .i64 7, .int .i64 f, .bool d, .int .i64 (rd : Nat), .int .i64 (s1 : Nat), .int .i64 (s2 : Nat), .int .u64 (m : Nat)] 26) = wa at *
  have c0 : wa.cell? ⟨w.heap.size, 0, none⟩ = some (.int .i64 7) := ka.cell 0
  have c1 : wa.cell? ⟨w.heap.size, 1, none⟩ = some (.int .i64 f) := ka.cell 1
  have c2 : wa.cell? ⟨w.heap.size, 2, none⟩ = some (.bool d) := ka.cell 2
  have c3 : wa.cell? ⟨w.heap.size, 3, none⟩ = some (.int .i64 (rd : Nat)) := ka.cell 3
  have c4 : wa.cell? ⟨w.heap.size, 4, none⟩ = some (.int .i64 (s1 : Nat)) := ka.cell 4
  have c5 : wa.cell? ⟨w.heap.size, 5, none⟩ = some (.int .i64 (s2 : Nat)) := ka.cell 5
  have c6 : wa.cell? ⟨w.heap.size, 6, none⟩ = some (.int .u64 (m : Nat)) := ka.cell 6
  have hsa := ka.lt
  clear ka
  have p1 := putN_lt 35 q (m / 32 % 128) rd s1 s2 (by decide) k32 (by omega) h4 h5 h6
  have p2 := i12N_lt m
  have p3 := jmpN_lt m
  have p4 := brcN_lt m
  (first | go_region_held3 (fun w' => w'.cell? ⟨w.heap.size, 0, none⟩ = some (.int .i64 7) ∧ w'.cell? ⟨w.heap.size, 1, none⟩ = some (.int .i64 f) ∧ w'.cell? ⟨w.heap.size, 2, none⟩ = some (.bool d) ∧ w'.cell? ⟨w.heap.size, 3, none⟩ = some (.int .i64 (rd : Nat)) ∧ w'.cell? ⟨w.heap.size, 4, none⟩ = some (.int .i64 (s1 : Nat)) ∧ w'.cell? ⟨w.heap.size, 5, none⟩ = some (.int .i64 (s2 : Nat)) ∧ w'.cell? ⟨w.heap.size, 6, none⟩ = some (.int .u64 (m : Nat))) (go_keep) (first | (go_at_call 59; refine (put_c 35 q (m / 32 % 128) 7 f d rd s1 s2 m (by decide) k32 (by omega) h4 h5 h6 (Grew.refl _)).mono ?_; rintro e w5 ⟨rfl, g5⟩; have g35 := (Grew.refl wa).drew1.trans g5; have y0 : w5.cell? ⟨w.heap.size, 0, none⟩ = some (.int .i64 7) := (by rw [(gcell g35).1 _ _ hsa]; exact c0); have y1 : w5.cell? ⟨w.heap.size, 1, none⟩ = some (.int .i64 f) := (by rw [(gcell g35).1 _ _ hsa]; exact c1); have y2 : w5.cell? ⟨w.heap.size, 2, none⟩ = some (.bool d) := (by rw [(gcell g35).1 _ _ hsa]; exact c2); have y3 : w5.cell? ⟨w.heap.size, 3, none⟩ = some (.int .i64 (rd : Nat)) := (by rw [(gcell g35).1 _ _ hsa]; exact c3); have y4 : w5.cell? ⟨w.heap.size, 4, none⟩ = some (.int .i64 (s1 : Nat)) := (by rw [(gcell g35).1 _ _ hsa]; exact c4); have y5 : w5.cell? ⟨w.heap.size, 5, none⟩ = some (.int .i64 (s2 : Nat)) := (by rw [(gcell g35).1 _ _ hsa]; exact c5); have y6 : w5.cell? ⟨w.heap.size, 6, none⟩ = some (.int .u64 (m : Nat)) := (by rw [(gcell g35).1 _ _ hsa]; exact c6))) | fail)
  all_goals (
  go_wp2_with fail
  go_ret
  refine ⟨ret_u64 ?_, ga.trans g35⟩
  first | rfl | (simp (disch := (repeat (first | omega | apply or64_lt))) only [mulc, divc, modc, tmodc, or64, or64_lit, wrap64c]))
set_option maxRecDepth 100000 in
set_option maxHeartbeats 2000000 in
theorem wd_8r_false (f : Int) (rd s1 s2 m : Nat) (h4 : rd < 32) (h5 : s1 < 32) (h6 : s2 < 32) (hm : m < 18446744073709551616) {W w : World} (hg : Grew W w) (hf : f = 13) :
    Calls Try.prog 31 #[iP 8 f false rd s1 s2 m] w fun e w' => e = .returned (.int .u64 (putN 19 5 32 rd s1 s2 ||| m % 64 * 1048576 : Nat)) ∧ Grew W w' := by
  have ga := hg.alloc (.cells #[.int .i64 8, .int .i64 f, .bool false, .int .i64 (rd : Nat), .int .i64 (s1 : Nat), .int .i64 (s2 : Nat), .int .u64 (m : Nat)] 26)
  have ka := Blk.new w #[.int .i64 8, .int .i64 f, .bool false, .int .i64 (rd : Nat), .int .i64 (s1 : Nat), .int .i64 (s2 : Nat), .int .u64 (m : Nat)] 26 w.heap.size rfl
  have hk := fl32 f
  have k32 : flN f 32 < 32 := flN_lt f 32 (by decide)
  have bf : (f == 13) = true := by rw [beq_iff_eq]; exact hf
  clear hf
  generalize flN f 32 = q at *
  go_enter Try.func31, Try.ntmps31
  go_upto_region 22 with fail
  generalize w.alloc (.cells #[.int .i64 8, .int .i64 f, .bool false, .int .i64 (rd : Nat), .int .i64 (s1 : Nat), .int .i64 (s2 : Nat), .int .u64 (m : Nat)] 26) = wa at *
  have c0 : wa.cell? ⟨w.heap.size, 0, none⟩ = some (.int .i64 8) := ka.cell 0
  have c1 : wa.cell? ⟨w.heap.size, 1, none⟩ = some (.int .i64 f) := ka.cell 1
  have c2 : wa.cell? ⟨w.heap.size, 2, none⟩ = some (.bool false) := ka.cell 2
  have c3 : wa.cell? ⟨w.heap.size, 3, none⟩ = some (.int .i64 (rd : Nat)) := ka.cell 3
  have c4 : wa.cell? ⟨w.heap.size, 4, none⟩ = some (.int .i64 (s1 : Nat)) := ka.cell 4
  have c5 : wa.cell? ⟨w.heap.size, 5, none⟩ = some (.int .i64 (s2 : Nat)) := ka.cell 5
  have c6 : wa.cell? ⟨w.heap.size, 6, none⟩ = some (.int .u64 (m : Nat)) := ka.cell 6
  have hsa := ka.lt
  clear ka
  have p1 := putN_lt 19 5 32 rd s1 s2 (by decide) (by decide) (by decide) h4 h5 h6
  have p2 := i12N_lt m
  have p3 := jmpN_lt m
  have p4 := brcN_lt m
  (first | go_region_held3 (fun w' => w'.cell? ⟨w.heap.size, 0, none⟩ = some (.int .i64 8) ∧ w'.cell? ⟨w.heap.size, 1, none⟩ = some (.int .i64 f) ∧ w'.cell? ⟨w.heap.size, 2, none⟩ = some (.bool false) ∧ w'.cell? ⟨w.heap.size, 3, none⟩ = some (.int .i64 (rd : Nat)) ∧ w'.cell? ⟨w.heap.size, 4, none⟩ = some (.int .i64 (s1 : Nat)) ∧ w'.cell? ⟨w.heap.size, 5, none⟩ = some (.int .i64 (s2 : Nat)) ∧ w'.cell? ⟨w.heap.size, 6, none⟩ = some (.int .u64 (m : Nat))) (go_keep) (first | (go_at_call 59; refine (put_c 19 5 32 8 f false rd s1 s2 m (by decide) (by decide) (by decide) h4 h5 h6 (Grew.refl _)).mono ?_; rintro e w5 ⟨rfl, g5⟩; have g35 := (Grew.refl wa).drew1.trans g5; have y0 : w5.cell? ⟨w.heap.size, 0, none⟩ = some (.int .i64 8) := (by rw [(gcell g35).1 _ _ hsa]; exact c0); have y1 : w5.cell? ⟨w.heap.size, 1, none⟩ = some (.int .i64 f) := (by rw [(gcell g35).1 _ _ hsa]; exact c1); have y2 : w5.cell? ⟨w.heap.size, 2, none⟩ = some (.bool false) := (by rw [(gcell g35).1 _ _ hsa]; exact c2); have y3 : w5.cell? ⟨w.heap.size, 3, none⟩ = some (.int .i64 (rd : Nat)) := (by rw [(gcell g35).1 _ _ hsa]; exact c3); have y4 : w5.cell? ⟨w.heap.size, 4, none⟩ = some (.int .i64 (s1 : Nat)) := (by rw [(gcell g35).1 _ _ hsa]; exact c4); have y5 : w5.cell? ⟨w.heap.size, 5, none⟩ = some (.int .i64 (s2 : Nat)) := (by rw [(gcell g35).1 _ _ hsa]; exact c5); have y6 : w5.cell? ⟨w.heap.size, 6, none⟩ = some (.int .u64 (m : Nat)) := (by rw [(gcell g35).1 _ _ hsa]; exact c6))) | fail)
  all_goals (
  go_wp2_with fail
  go_ret
  refine ⟨ret_u64 ?_, ga.trans g35⟩
  first | rfl | (simp (disch := (repeat (first | omega | apply or64_lt))) only [mulc, divc, modc, tmodc, or64, or64_lit, wrap64c]))
set_option maxRecDepth 100000 in
set_option maxHeartbeats 2000000 in
theorem wd_8_false (f : Int) (rd s1 s2 m : Nat) (h4 : rd < 32) (h5 : s1 < 32) (h6 : s2 < 32) (hm : m < 18446744073709551616) {W w : World} (hg : Grew W w) (hf : ¬ f = 13) :
    Calls Try.prog 31 #[iP 8 f false rd s1 s2 m] w fun e w' => e = .returned (.int .u64 (putN 19 (flN f 32) 0 rd s1 s2 ||| i12N m : Nat)) ∧ Grew W w' := by
  have ga := hg.alloc (.cells #[.int .i64 8, .int .i64 f, .bool false, .int .i64 (rd : Nat), .int .i64 (s1 : Nat), .int .i64 (s2 : Nat), .int .u64 (m : Nat)] 26)
  have ka := Blk.new w #[.int .i64 8, .int .i64 f, .bool false, .int .i64 (rd : Nat), .int .i64 (s1 : Nat), .int .i64 (s2 : Nat), .int .u64 (m : Nat)] 26 w.heap.size rfl
  have hk := fl32 f
  have k32 : flN f 32 < 32 := flN_lt f 32 (by decide)
  have bf : (f == 13) = false := by rw [beq_eq_false_iff_ne]; exact hf
  clear hf
  generalize flN f 32 = q at *
  go_enter Try.func31, Try.ntmps31
  go_upto_region 23 with fail
  generalize w.alloc (.cells #[.int .i64 8, .int .i64 f, .bool false, .int .i64 (rd : Nat), .int .i64 (s1 : Nat), .int .i64 (s2 : Nat), .int .u64 (m : Nat)] 26) = wa at *
  have c0 : wa.cell? ⟨w.heap.size, 0, none⟩ = some (.int .i64 8) := ka.cell 0
  have c1 : wa.cell? ⟨w.heap.size, 1, none⟩ = some (.int .i64 f) := ka.cell 1
  have c2 : wa.cell? ⟨w.heap.size, 2, none⟩ = some (.bool false) := ka.cell 2
  have c3 : wa.cell? ⟨w.heap.size, 3, none⟩ = some (.int .i64 (rd : Nat)) := ka.cell 3
  have c4 : wa.cell? ⟨w.heap.size, 4, none⟩ = some (.int .i64 (s1 : Nat)) := ka.cell 4
  have c5 : wa.cell? ⟨w.heap.size, 5, none⟩ = some (.int .i64 (s2 : Nat)) := ka.cell 5
  have c6 : wa.cell? ⟨w.heap.size, 6, none⟩ = some (.int .u64 (m : Nat)) := ka.cell 6
  have hsa := ka.lt
  clear ka
  have p1 := putN_lt 19 q 0 rd s1 s2 (by decide) k32 (by decide) h4 h5 h6
  have p2 := i12N_lt m
  have p3 := jmpN_lt m
  have p4 := brcN_lt m
  (first | go_region_held3 (fun w' => w'.cell? ⟨w.heap.size, 0, none⟩ = some (.int .i64 8) ∧ w'.cell? ⟨w.heap.size, 1, none⟩ = some (.int .i64 f) ∧ w'.cell? ⟨w.heap.size, 2, none⟩ = some (.bool false) ∧ w'.cell? ⟨w.heap.size, 3, none⟩ = some (.int .i64 (rd : Nat)) ∧ w'.cell? ⟨w.heap.size, 4, none⟩ = some (.int .i64 (s1 : Nat)) ∧ w'.cell? ⟨w.heap.size, 5, none⟩ = some (.int .i64 (s2 : Nat)) ∧ w'.cell? ⟨w.heap.size, 6, none⟩ = some (.int .u64 (m : Nat))) (go_keep) (first | (go_at_call 59; refine (put_c 19 q 0 8 f false rd s1 s2 m (by decide) k32 (by decide) h4 h5 h6 (Grew.refl _)).mono ?_; rintro e w5 ⟨rfl, g5⟩; have g35 := (Grew.refl wa).drew1.trans g5; have y0 : w5.cell? ⟨w.heap.size, 0, none⟩ = some (.int .i64 8) := (by rw [(gcell g35).1 _ _ hsa]; exact c0); have y1 : w5.cell? ⟨w.heap.size, 1, none⟩ = some (.int .i64 f) := (by rw [(gcell g35).1 _ _ hsa]; exact c1); have y2 : w5.cell? ⟨w.heap.size, 2, none⟩ = some (.bool false) := (by rw [(gcell g35).1 _ _ hsa]; exact c2); have y3 : w5.cell? ⟨w.heap.size, 3, none⟩ = some (.int .i64 (rd : Nat)) := (by rw [(gcell g35).1 _ _ hsa]; exact c3); have y4 : w5.cell? ⟨w.heap.size, 4, none⟩ = some (.int .i64 (s1 : Nat)) := (by rw [(gcell g35).1 _ _ hsa]; exact c4); have y5 : w5.cell? ⟨w.heap.size, 5, none⟩ = some (.int .i64 (s2 : Nat)) := (by rw [(gcell g35).1 _ _ hsa]; exact c5); have y6 : w5.cell? ⟨w.heap.size, 6, none⟩ = some (.int .u64 (m : Nat)) := (by rw [(gcell g35).1 _ _ hsa]; exact c6)) | (go_at_call 61; refine (imm12_c 8 f false rd s1 s2 m hm (Grew.refl _)).mono ?_; rintro e w6 ⟨rfl, g6⟩; have g36 := g35.trans g6; have z0 : w6.cell? ⟨w.heap.size, 0, none⟩ = some (.int .i64 8) := (by rw [(gcell g36).1 _ _ hsa]; exact c0); have z1 : w6.cell? ⟨w.heap.size, 1, none⟩ = some (.int .i64 f) := (by rw [(gcell g36).1 _ _ hsa]; exact c1); have z2 : w6.cell? ⟨w.heap.size, 2, none⟩ = some (.bool false) := (by rw [(gcell g36).1 _ _ hsa]; exact c2); have z3 : w6.cell? ⟨w.heap.size, 3, none⟩ = some (.int .i64 (rd : Nat)) := (by rw [(gcell g36).1 _ _ hsa]; exact c3); have z4 : w6.cell? ⟨w.heap.size, 4, none⟩ = some (.int .i64 (s1 : Nat)) := (by rw [(gcell g36).1 _ _ hsa]; exact c4); have z5 : w6.cell? ⟨w.heap.size, 5, none⟩ = some (.int .i64 (s2 : Nat)) := (by rw [(gcell g36).1 _ _ hsa]; exact c5); have z6 : w6.cell? ⟨w.heap.size, 6, none⟩ = some (.int .u64 (m : Nat)) := (by rw [(gcell g36).1 _ _ hsa]; exact c6))) | fail)
  all_goals (
  go_wp2_with fail
  go_ret
  refine ⟨ret_u64 ?_, ga.trans g36⟩
  first | rfl | (simp (disch := (repeat (first | omega | apply or64_lt))) only [mulc, divc, modc, tmodc, or64, or64_lit, wrap64c]))
set_option maxRecDepth 100000 in
set_option maxHeartbeats 2000000 in
theorem wd_8r_true (f : Int) (rd s1 s2 m : Nat) (h4 : rd < 32) (h5 : s1 < 32) (h6 : s2 < 32) (hm : m < 18446744073709551616) {W w : World} (hg : Grew W w) (hf : f = 13) :
    Calls Try.prog 31 #[iP 8 f true rd s1 s2 m] w fun e w' => e = .returned (.int .u64 (putN 27 5 32 rd s1 s2 ||| m % 64 * 1048576 : Nat)) ∧ Grew W w' := by
  have ga := hg.alloc (.cells #[.int .i64 8, .int .i64 f, .bool true, .int .i64 (rd : Nat), .int .i64 (s1 : Nat), .int .i64 (s2 : Nat), .int .u64 (m : Nat)] 26)
  have ka := Blk.new w #[.int .i64 8, .int .i64 f, .bool true, .int .i64 (rd : Nat), .int .i64 (s1 : Nat), .int .i64 (s2 : Nat), .int .u64 (m : Nat)] 26 w.heap.size rfl
  have hk := fl32 f
  have k32 : flN f 32 < 32 := flN_lt f 32 (by decide)
  have bf : (f == 13) = true := by rw [beq_iff_eq]; exact hf
  clear hf
  generalize flN f 32 = q at *
  go_enter Try.func31, Try.ntmps31
  go_upto_region 22 with fail
  generalize w.alloc (.cells #[.int .i64 8, .int .i64 f, .bool true, .int .i64 (rd : Nat), .int .i64 (s1 : Nat), .int .i64 (s2 : Nat), .int .u64 (m : Nat)] 26) = wa at *
  have c0 : wa.cell? ⟨w.heap.size, 0, none⟩ = some (.int .i64 8) := ka.cell 0
  have c1 : wa.cell? ⟨w.heap.size, 1, none⟩ = some (.int .i64 f) := ka.cell 1
  have c2 : wa.cell? ⟨w.heap.size, 2, none⟩ = some (.bool true) := ka.cell 2
  have c3 : wa.cell? ⟨w.heap.size, 3, none⟩ = some (.int .i64 (rd : Nat)) := ka.cell 3
  have c4 : wa.cell? ⟨w.heap.size, 4, none⟩ = some (.int .i64 (s1 : Nat)) := ka.cell 4
  have c5 : wa.cell? ⟨w.heap.size, 5, none⟩ = some (.int .i64 (s2 : Nat)) := ka.cell 5
  have c6 : wa.cell? ⟨w.heap.size, 6, none⟩ = some (.int .u64 (m : Nat)) := ka.cell 6
  have hsa := ka.lt
  clear ka
  have p1 := putN_lt 27 5 32 rd s1 s2 (by decide) (by decide) (by decide) h4 h5 h6
  have p2 := i12N_lt m
  have p3 := jmpN_lt m
  have p4 := brcN_lt m
  (first | go_region_held3 (fun w' => w'.cell? ⟨w.heap.size, 0, none⟩ = some (.int .i64 8) ∧ w'.cell? ⟨w.heap.size, 1, none⟩ = some (.int .i64 f) ∧ w'.cell? ⟨w.heap.size, 2, none⟩ = some (.bool true) ∧ w'.cell? ⟨w.heap.size, 3, none⟩ = some (.int .i64 (rd : Nat)) ∧ w'.cell? ⟨w.heap.size, 4, none⟩ = some (.int .i64 (s1 : Nat)) ∧ w'.cell? ⟨w.heap.size, 5, none⟩ = some (.int .i64 (s2 : Nat)) ∧ w'.cell? ⟨w.heap.size, 6, none⟩ = some (.int .u64 (m : Nat))) (go_keep) (first | (go_at_call 59; refine (put_c 27 5 32 8 f true rd s1 s2 m (by decide) (by decide) (by decide) h4 h5 h6 (Grew.refl _)).mono ?_; rintro e w5 ⟨rfl, g5⟩; have g35 := (Grew.refl wa).drew1.trans g5; have y0 : w5.cell? ⟨w.heap.size, 0, none⟩ = some (.int .i64 8) := (by rw [(gcell g35).1 _ _ hsa]; exact c0); have y1 : w5.cell? ⟨w.heap.size, 1, none⟩ = some (.int .i64 f) := (by rw [(gcell g35).1 _ _ hsa]; exact c1); have y2 : w5.cell? ⟨w.heap.size, 2, none⟩ = some (.bool true) := (by rw [(gcell g35).1 _ _ hsa]; exact c2); have y3 : w5.cell? ⟨w.heap.size, 3, none⟩ = some (.int .i64 (rd : Nat)) := (by rw [(gcell g35).1 _ _ hsa]; exact c3); have y4 : w5.cell? ⟨w.heap.size, 4, none⟩ = some (.int .i64 (s1 : Nat)) := (by rw [(gcell g35).1 _ _ hsa]; exact c4); have y5 : w5.cell? ⟨w.heap.size, 5, none⟩ = some (.int .i64 (s2 : Nat)) := (by rw [(gcell g35).1 _ _ hsa]; exact c5); have y6 : w5.cell? ⟨w.heap.size, 6, none⟩ = some (.int .u64 (m : Nat)) := (by rw [(gcell g35).1 _ _ hsa]; exact c6))) | fail)
  all_goals (
  go_wp2_with fail
  go_ret
  refine ⟨ret_u64 ?_, ga.trans g35⟩
  first | rfl | (simp (disch := (repeat (first | omega | apply or64_lt))) only [mulc, divc, modc, tmodc, or64, or64_lit, wrap64c]))
set_option maxRecDepth 100000 in
set_option maxHeartbeats 2000000 in
theorem wd_8_true (f : Int) (rd s1 s2 m : Nat) (h4 : rd < 32) (h5 : s1 < 32) (h6 : s2 < 32) (hm : m < 18446744073709551616) {W w : World} (hg : Grew W w) (hf : ¬ f = 13) :
    Calls Try.prog 31 #[iP 8 f true rd s1 s2 m] w fun e w' => e = .returned (.int .u64 (putN 27 (flN f 32) 0 rd s1 s2 ||| i12N m : Nat)) ∧ Grew W w' := by
  have ga := hg.alloc (.cells #[.int .i64 8, .int .i64 f, .bool true, .int .i64 (rd : Nat), .int .i64 (s1 : Nat), .int .i64 (s2 : Nat), .int .u64 (m : Nat)] 26)
  have ka := Blk.new w #[.int .i64 8, .int .i64 f, .bool true, .int .i64 (rd : Nat), .int .i64 (s1 : Nat), .int .i64 (s2 : Nat), .int .u64 (m : Nat)] 26 w.heap.size rfl
  have hk := fl32 f
  have k32 : flN f 32 < 32 := flN_lt f 32 (by decide)
  have bf : (f == 13) = false := by rw [beq_eq_false_iff_ne]; exact hf
  clear hf
  generalize flN f 32 = q at *
  go_enter Try.func31, Try.ntmps31
  go_upto_region 23 with fail
  generalize w.alloc (.cells #[.int .i64 8, .int .i64 f, .bool true, .int .i64 (rd : Nat), .int .i64 (s1 : Nat), .int .i64 (s2 : Nat), .int .u64 (m : Nat)] 26) = wa at *
  have c0 : wa.cell? ⟨w.heap.size, 0, none⟩ = some (.int .i64 8) := ka.cell 0
  have c1 : wa.cell? ⟨w.heap.size, 1, none⟩ = some (.int .i64 f) := ka.cell 1
  have c2 : wa.cell? ⟨w.heap.size, 2, none⟩ = some (.bool true) := ka.cell 2
  have c3 : wa.cell? ⟨w.heap.size, 3, none⟩ = some (.int .i64 (rd : Nat)) := ka.cell 3
  have c4 : wa.cell? ⟨w.heap.size, 4, none⟩ = some (.int .i64 (s1 : Nat)) := ka.cell 4
  have c5 : wa.cell? ⟨w.heap.size, 5, none⟩ = some (.int .i64 (s2 : Nat)) := ka.cell 5
  have c6 : wa.cell? ⟨w.heap.size, 6, none⟩ = some (.int .u64 (m : Nat)) := ka.cell 6
  have hsa := ka.lt
  clear ka
  have p1 := putN_lt 27 q 0 rd s1 s2 (by decide) k32 (by decide) h4 h5 h6
  have p2 := i12N_lt m
  have p3 := jmpN_lt m
  have p4 := brcN_lt m
  (first | go_region_held3 (fun w' => w'.cell? ⟨w.heap.size, 0, none⟩ = some (.int .i64 8) ∧ w'.cell? ⟨w.heap.size, 1, none⟩ = some (.int .i64 f) ∧ w'.cell? ⟨w.heap.size, 2, none⟩ = some (.bool true) ∧ w'.cell? ⟨w.heap.size, 3, none⟩ = some (.int .i64 (rd : Nat)) ∧ w'.cell? ⟨w.heap.size, 4, none⟩ = some (.int .i64 (s1 : Nat)) ∧ w'.cell? ⟨w.heap.size, 5, none⟩ = some (.int .i64 (s2 : Nat)) ∧ w'.cell? ⟨w.heap.size, 6, none⟩ = some (.int .u64 (m : Nat))) (go_keep) (first | (go_at_call 59; refine (put_c 27 q 0 8 f true rd s1 s2 m (by decide) k32 (by decide) h4 h5 h6 (Grew.refl _)).mono ?_; rintro e w5 ⟨rfl, g5⟩; have g35 := (Grew.refl wa).drew1.trans g5; have y0 : w5.cell? ⟨w.heap.size, 0, none⟩ = some (.int .i64 8) := (by rw [(gcell g35).1 _ _ hsa]; exact c0); have y1 : w5.cell? ⟨w.heap.size, 1, none⟩ = some (.int .i64 f) := (by rw [(gcell g35).1 _ _ hsa]; exact c1); have y2 : w5.cell? ⟨w.heap.size, 2, none⟩ = some (.bool true) := (by rw [(gcell g35).1 _ _ hsa]; exact c2); have y3 : w5.cell? ⟨w.heap.size, 3, none⟩ = some (.int .i64 (rd : Nat)) := (by rw [(gcell g35).1 _ _ hsa]; exact c3); have y4 : w5.cell? ⟨w.heap.size, 4, none⟩ = some (.int .i64 (s1 : Nat)) := (by rw [(gcell g35).1 _ _ hsa]; exact c4); have y5 : w5.cell? ⟨w.heap.size, 5, none⟩ = some (.int .i64 (s2 : Nat)) := (by rw [(gcell g35).1 _ _ hsa]; exact c5); have y6 : w5.cell? ⟨w.heap.size, 6, none⟩ = some (.int .u64 (m : Nat)) := (by rw [(gcell g35).1 _ _ hsa]; exact c6)) | (go_at_call 61; refine (imm12_c 8 f true rd s1 s2 m hm (Grew.refl _)).mono ?_; rintro e w6 ⟨rfl, g6⟩; have g36 := g35.trans g6; have z0 : w6.cell? ⟨w.heap.size, 0, none⟩ = some (.int .i64 8) := (by rw [(gcell g36).1 _ _ hsa]; exact c0); have z1 : w6.cell? ⟨w.heap.size, 1, none⟩ = some (.int .i64 f) := (by rw [(gcell g36).1 _ _ hsa]; exact c1); have z2 : w6.cell? ⟨w.heap.size, 2, none⟩ = some (.bool true) := (by rw [(gcell g36).1 _ _ hsa]; exact c2); have z3 : w6.cell? ⟨w.heap.size, 3, none⟩ = some (.int .i64 (rd : Nat)) := (by rw [(gcell g36).1 _ _ hsa]; exact c3); have z4 : w6.cell? ⟨w.heap.size, 4, none⟩ = some (.int .i64 (s1 : Nat)) := (by rw [(gcell g36).1 _ _ hsa]; exact c4); have z5 : w6.cell? ⟨w.heap.size, 5, none⟩ = some (.int .i64 (s2 : Nat)) := (by rw [(gcell g36).1 _ _ hsa]; exact c5); have z6 : w6.cell? ⟨w.heap.size, 6, none⟩ = some (.int .u64 (m : Nat)) := (by rw [(gcell g36).1 _ _ hsa]; exact c6))) | fail)
  all_goals (
  go_wp2_with fail
  go_ret
  refine ⟨ret_u64 ?_, ga.trans g36⟩
  first | rfl | (simp (disch := (repeat (first | omega | apply or64_lt))) only [mulc, divc, modc, tmodc, or64, or64_lit, wrap64c]))
set_option maxRecDepth 100000 in
set_option maxHeartbeats 2000000 in
theorem wd_12 (f : Int) (d : Bool) (rd s1 s2 m : Nat) (h4 : rd < 32) (h5 : s1 < 32) (h6 : s2 < 32) (hm : m < 18446744073709551616) {W w : World} (hg : Grew W w) :
    Calls Try.prog 31 #[iP 12 f d rd s1 s2 m] w fun e w' => e = .returned (.int .u64 (putN 115 (flN f 32) 0 rd s1 s2 ||| i12N m : Nat)) ∧ Grew W w' := by
  have ga := hg.alloc (.cells #[.int .i64 12, .int .i64 f, .bool d, .int .i64 (rd : Nat), .int .i64 (s1 : Nat), .int .i64 (s2 : Nat), .int .u64 (m : Nat)] 26)
  have ka := Blk.new w #[.int .i64 12, .int .i64 f, .bool d, .int .i64 (rd : Nat), .int .i64 (s1 : Nat), .int .i64 (s2 : Nat), .int .u64 (m : Nat)] 26 w.heap.size rfl
  have hk := fl32 f
  have k32 : flN f 32 < 32 := flN_lt f 32 (by decide)
  generalize flN f 32 = q at *
  go_enter Try.func31, Try.ntmps31
  go_upto_region 35 with fail
  generalize w.alloc (.cells #[.int .i64 12, .int .i64 f, .bool d, .int .i64 (rd : Nat), .int .i64 (s1 : Nat), .int .i64 (s2 : Nat), .int .u64 (m : Nat)] 26) = wa at *
  have c0 : wa.cell? ⟨w.heap.size, 0, none⟩ = some (.int .i64 12) := ka.cell 0
  have c1 : wa.cell? ⟨w.heap.size, 1, none⟩ = some (.int .i64 f) := ka.cell 1
  have c2 : wa.cell? ⟨w.heap.size, 2, none⟩ = some (.bool d) := ka.cell 2
  have c3 : wa.cell? ⟨w.heap.size, 3, none⟩ = some (.int .i64 (rd : Nat)) := ka.cell 3
  have c4 : wa.cell? ⟨w.heap.size, 4, none⟩ = some (.int .i64 (s1 : Nat)) := ka.cell 4
  have c5 : wa.cell? ⟨w.heap.size, 5, none⟩ = some (.int .i64 (s2 : Nat)) := ka.cell 5
  have c6 : wa.cell? ⟨w.heap.size, 6, none⟩ = some (.int .u64 (m : Nat)) := ka.cell 6
  have hsa := ka.lt
  clear ka
  have p1 := putN_lt 115 q 0 rd s1 s2 (by decide) k32 (by decide) h4 h5 h6
  have p2 := i12N_lt m
  have p3 := jmpN_lt m
  have p4 := brcN_lt m
  (first | go_region_held3 (fun w' => w'.cell? ⟨w.heap.size, 0, none⟩ = some (.int .i64 12) ∧ w'.cell? ⟨w.heap.size, 1, none⟩ = some (.int .i64 f) ∧ w'.cell? ⟨w.heap.size, 2, none⟩ = some (.bool d) ∧ w'.cell? ⟨w.heap.size, 3, none⟩ = some (.int .i64 (rd : Nat)) ∧ w'.cell? ⟨w.heap.size, 4, none⟩ = some (.int .i64 (s1 : Nat)) ∧ w'.cell? ⟨w.heap.size, 5, none⟩ = some (.int .i64 (s2 : Nat)) ∧ w'.cell? ⟨w.heap.size, 6, none⟩ = some (.int .u64 (m : Nat))) (go_keep) (first | (go_at_call 59; refine (put_c 115 q 0 12 f d rd s1 s2 m (by decide) k32 (by decide) h4 h5 h6 (Grew.refl _)).mono ?_; rintro e w5 ⟨rfl, g5⟩; have g35 := (Grew.refl wa).drew1.trans g5; have y0 : w5.cell? ⟨w.heap.size, 0, none⟩ = some (.int .i64 12) := (by rw [(gcell g35).1 _ _ hsa]; exact c0); have y1 : w5.cell? ⟨w.heap.size, 1, none⟩ = some (.int .i64 f) := (by rw [(gcell g35).1 _ _ hsa]; exact c1); have y2 : w5.cell? ⟨w.heap.size, 2, none⟩ = some (.bool d) := (by rw [(gcell g35).1 _ _ hsa]; exact c2); have y3 : w5.cell? ⟨w.heap.size, 3, none⟩ = some (.int .i64 (rd : Nat)) := (by rw [(gcell g35).1 _ _ hsa]; exact c3); have y4 : w5.cell? ⟨w.heap.size, 4, none⟩ = some (.int .i64 (s1 : Nat)) := (by rw [(gcell g35).1 _ _ hsa]; exact c4); have y5 : w5.cell? ⟨w.heap.size, 5, none⟩ = some (.int .i64 (s2 : Nat)) := (by rw [(gcell g35).1 _ _ hsa]; exact c5); have y6 : w5.cell? ⟨w.heap.size, 6, none⟩ = some (.int .u64 (m : Nat)) := (by rw [(gcell g35).1 _ _ hsa]; exact c6)) | (go_at_call 61; refine (imm12_c 12 f d rd s1 s2 m hm (Grew.refl _)).mono ?_; rintro e w6 ⟨rfl, g6⟩; have g36 := g35.trans g6; have z0 : w6.cell? ⟨w.heap.size, 0, none⟩ = some (.int .i64 12) := (by rw [(gcell g36).1 _ _ hsa]; exact c0); have z1 : w6.cell? ⟨w.heap.size, 1, none⟩ = some (.int .i64 f) := (by rw [(gcell g36).1 _ _ hsa]; exact c1); have z2 : w6.cell? ⟨w.heap.size, 2, none⟩ = some (.bool d) := (by rw [(gcell g36).1 _ _ hsa]; exact c2); have z3 : w6.cell? ⟨w.heap.size, 3, none⟩ = some (.int .i64 (rd : Nat)) := (by rw [(gcell g36).1 _ _ hsa]; exact c3); have z4 : w6.cell? ⟨w.heap.size, 4, none⟩ = some (.int .i64 (s1 : Nat)) := (by rw [(gcell g36).1 _ _ hsa]; exact c4); have z5 : w6.cell? ⟨w.heap.size, 5, none⟩ = some (.int .i64 (s2 : Nat)) := (by rw [(gcell g36).1 _ _ hsa]; exact c5); have z6 : w6.cell? ⟨w.heap.size, 6, none⟩ = some (.int .u64 (m : Nat)) := (by rw [(gcell g36).1 _ _ hsa]; exact c6))) | fail)
  all_goals (
  go_wp2_with fail
  go_ret
  refine ⟨ret_u64 ?_, ga.trans g36⟩
  first | rfl | (simp (disch := (repeat (first | omega | apply or64_lt))) only [mulc, divc, modc, tmodc, or64, or64_lit, wrap64c]))
set_option maxRecDepth 100000 in
set_option maxHeartbeats 2000000 in
theorem wd_9 (f : Int) (d : Bool) (rd s1 s2 m : Nat) (h4 : rd < 32) (h5 : s1 < 32) (h6 : s2 < 32) (hm : m < 18446744073709551616) {W w : World} (hg : Grew W w) :
    Calls Try.prog 31 #[iP 9 f d rd s1 s2 m] w fun e w' => e = .returned (.int .u64 (sumN f d rd s1 s2 : Nat)) ∧ Grew W w' := by
  have ga := hg.alloc (.cells #[.int .i64 9, .int .i64 f, .bool d, .int .i64 (rd : Nat), .int .i64 (s1 : Nat), .int .i64 (s2 : Nat), .int .u64 (m : Nat)] 26)
  have ka := Blk.new w #[.int .i64 9, .int .i64 f, .bool d, .int .i64 (rd : Nat), .int .i64 (s1 : Nat), .int .i64 (s2 : Nat), .int .u64 (m : Nat)] 26 w.heap.size rfl
  have hk := fl32 f
  have k32 : flN f 32 < 32 := flN_lt f 32 (by decide)
  generalize flN f 32 = q at *
  go_enter Try.func31, Try.ntmps31
  go_wp2_with fail
  refine (sum_c 9 f d rd s1 s2 m h4 h5 h6 ga).mono ?_
  rintro e w1 ⟨rfl, g1⟩
  go_wp2_with fail
  go_ret
  exact ⟨rfl, g1⟩
set_option maxRecDepth 100000 in
set_option maxHeartbeats 2000000 in
theorem wd_10 (f : Int) (d : Bool) (rd s1 s2 m : Nat) (h4 : rd < 32) (h5 : s1 < 32) (h6 : s2 < 32) (hm : m < 18446744073709551616) {W w : World} (hg : Grew W w) :
    Calls Try.prog 31 #[iP 10 f d rd s1 s2 m] w fun e w' => e = .returned (.int .u64 (putN 15 (flN f 32) 0 rd s1 s2 : Nat)) ∧ Grew W w' := by
  have ga := hg.alloc (.cells #[.int .i64 10, .int .i64 f, .bool d, .int .i64 (rd : Nat), .int .i64 (s1 : Nat), .int .i64 (s2 : Nat), .int .u64 (m : Nat)] 26)
  have ka := Blk.new w #[.int .i64 10, .int .i64 f, .bool d, .int .i64 (rd : Nat), .int .i64 (s1 : Nat), .int .i64 (s2 : Nat), .int .u64 (m : Nat)] 26 w.heap.size rfl
  have hk := fl32 f
  have k32 : flN f 32 < 32 := flN_lt f 32 (by decide)
  generalize flN f 32 = q at *
  go_enter Try.func31, Try.ntmps31
  go_wp2_with fail
  refine (put_c 15 q 0 10 f d rd s1 s2 m (by decide) k32 (by decide) h4 h5 h6 ga).mono ?_
  rintro e w1 ⟨rfl, g1⟩
  go_wp2_with fail
  go_ret
  exact ⟨rfl, g1⟩
set_option maxRecDepth 100000 in
set_option maxHeartbeats 2000000 in
theorem wd_11s (f : Int) (d : Bool) (rd s1 s2 m : Nat) (h4 : rd < 32) (h5 : s1 < 32) (h6 : s2 < 32) (hm : m < 18446744073709551616) {W w : World} (hg : Grew W w) (hf : f = 5) :
    Calls Try.prog 31 #[iP 11 f d rd s1 s2 m] w fun e w' => e = .returned (.int .u64 (putN 115 0 9 rd s1 s2 : Nat)) ∧ Grew W w' := by
  have ga := hg.alloc (.cells #[.int .i64 11, .int .i64 f, .bool d, .int .i64 (rd : Nat), .int .i64 (s1 : Nat), .int .i64 (s2 : Nat), .int .u64 (m : Nat)] 26)
  have ka := Blk.new w #[.int .i64 11, .int .i64 f, .bool d, .int .i64 (rd : Nat), .int .i64 (s1 : Nat), .int .i64 (s2 : Nat), .int .u64 (m : Nat)] 26 w.heap.size rfl
  have hk := fl32 f
  have k32 : flN f 32 < 32 := flN_lt f 32 (by decide)
  have bf : (f == 5) = true := by rw [beq_iff_eq]; exact hf
  clear hf
  generalize flN f 32 = q at *
  go_enter Try.func31, Try.ntmps31
  go_wp2_with fail
  refine (put_c 115 0 9 11 f d rd s1 s2 m (by decide) (by decide) (by decide) h4 h5 h6 ga).mono ?_
  rintro e w1 ⟨rfl, g1⟩
  go_wp2_with fail
  go_ret
  exact ⟨rfl, g1⟩
set_option maxRecDepth 100000 in
set_option maxHeartbeats 2000000 in
theorem wd_13_false (f : Int) (rd s1 s2 m : Nat) (h4 : rd < 32) (h5 : s1 < 32) (h6 : s2 < 32) (hm : m < 18446744073709551616) {W w : World} (hg : Grew W w) :
    Calls Try.prog 31 #[iP 13 f false rd s1 s2 m] w fun e w' => e = .returned (.int .u64 (putN 47 3 (flN f 32 * 4) rd s1 s2 : Nat)) ∧ Grew W w' := by
  have ga := hg.alloc (.cells #[.int .i64 13, .int .i64 f, .bool false, .int .i64 (rd : Nat), .int .i64 (s1 : Nat), .int .i64 (s2 : Nat), .int .u64 (m : Nat)] 26)
  have ka := Blk.new w #[.int .i64 13, .int .i64 f, .bool false, .int .i64 (rd : Nat), .int .i64 (s1 : Nat), .int .i64 (s2 : Nat), .int .u64 (m : Nat)] 26 w.heap.size rfl
  have hk := fl32 f
  have k32 : flN f 32 < 32 := flN_lt f 32 (by decide)
  generalize flN f 32 = q at *
  have hw4 : IntKind.u64.wrap ((q : Int) * 4) = ((q * 4 : Nat) : Int) := by rw [mulc]; exact wrap64c _ (by omega)
  go_enter Try.func31, Try.ntmps31
  go_wp2_with fail
  refine (put_c 47 3 (q * 4) 13 f false rd s1 s2 m (by decide) (by decide) (by omega) h4 h5 h6 ga).mono ?_
  rintro e w1 ⟨rfl, g1⟩
  go_wp2_with fail
  go_ret
  exact ⟨rfl, g1⟩
set_option maxRecDepth 100000 in
set_option maxHeartbeats 2000000 in
theorem wd_13_true (f : Int) (rd s1 s2 m : Nat) (h4 : rd < 32) (h5 : s1 < 32) (h6 : s2 < 32) (hm : m < 18446744073709551616) {W w : World} (hg : Grew W w) :
    Calls Try.prog 31 #[iP 13 f true rd s1 s2 m] w fun e w' => e = .returned (.int .u64 (putN 47 2 (flN f 32 * 4) rd s1 s2 : Nat)) ∧ Grew W w' := by
  have ga := hg.alloc (.cells #[.int .i64 13, .int .i64 f, .bool true, .int .i64 (rd : Nat), .int .i64 (s1 : Nat), .int .i64 (s2 : Nat), .int .u64 (m : Nat)] 26)
  have ka := Blk.new w #[.int .i64 13, .int .i64 f, .bool true, .int .i64 (rd : Nat), .int .i64 (s1 : Nat), .int .i64 (s2 : Nat), .int .u64 (m : Nat)] 26 w.heap.size rfl
  have hk := fl32 f
  have k32 : flN f 32 < 32 := flN_lt f 32 (by decide)
  generalize flN f 32 = q at *
  have hw4 : IntKind.u64.wrap ((q : Int) * 4) = ((q * 4 : Nat) : Int) := by rw [mulc]; exact wrap64c _ (by omega)
  go_enter Try.func31, Try.ntmps31
  go_wp2_with fail
  refine (put_c 47 2 (q * 4) 13 f true rd s1 s2 m (by decide) (by decide) (by omega) h4 h5 h6 ga).mono ?_
  rintro e w1 ⟨rfl, g1⟩
  go_wp2_with fail
  go_ret
  exact ⟨rfl, g1⟩
set_option maxRecDepth 100000 in
set_option maxHeartbeats 2000000 in
theorem wd_11_0 (d : Bool) (rd s1 s2 m : Nat) (h4 : rd < 32) (h5 : s1 < 32) (h6 : s2 < 32) (hm : m < 18446744073709551616) {W w : World} (hg : Grew W w) :
    Calls Try.prog 31 #[iP 11 0 d rd s1 s2 m] w fun e w' => e = .returned (.int .u64 (115 : Nat)) ∧ Grew W w' := by
  have ga := hg.alloc (.cells #[.int .i64 11, .int .i64 0, .bool d, .int .i64 (rd : Nat), .int .i64 (s1 : Nat), .int .i64 (s2 : Nat), .int .u64 (m : Nat)] 26)
  have ka := Blk.new w #[.int .i64 11, .int .i64 0, .bool d, .int .i64 (rd : Nat), .int .i64 (s1 : Nat), .int .i64 (s2 : Nat), .int .u64 (m : Nat)] 26 w.heap.size rfl
  go_enter Try.func31, Try.ntmps31
  go_wp2_with fail
  go_ret
  exact ⟨rfl, (by repeat (first | with_reducible exact ga | with_reducible refine Grew.alloc ?_ _))⟩
set_option maxRecDepth 100000 in
set_option maxHeartbeats 2000000 in
theorem wd_11_1 (d : Bool) (rd s1 s2 m : Nat) (h4 : rd < 32) (h5 : s1 < 32) (h6 : s2 < 32) (hm : m < 18446744073709551616) {W w : World} (hg : Grew W w) :
    Calls Try.prog 31 #[iP 11 1 d rd s1 s2 m] w fun e w' => e = .returned (.int .u64 (1048691 : Nat)) ∧ Grew W w' := by
  have ga := hg.alloc (.cells #[.int .i64 11, .int .i64 1, .bool d, .int .i64 (rd : Nat), .int .i64 (s1 : Nat), .int .i64 (s2 : Nat), .int .u64 (m : Nat)] 26)
  have ka := Blk.new w #[.int .i64 11, .int .i64 1, .bool d, .int .i64 (rd : Nat), .int .i64 (s1 : Nat), .int .i64 (s2 : Nat), .int .u64 (m : Nat)] 26 w.heap.size rfl
  go_enter Try.func31, Try.ntmps31
  go_wp2_with fail
  go_ret
  exact ⟨rfl, (by repeat (first | with_reducible exact ga | with_reducible refine Grew.alloc ?_ _))⟩
set_option maxRecDepth 100000 in
set_option maxHeartbeats 2000000 in
theorem wd_11_2 (d : Bool) (rd s1 s2 m : Nat) (h4 : rd < 32) (h5 : s1 < 32) (h6 : s2 < 32) (hm : m < 18446744073709551616) {W w : World} (hg : Grew W w) :
    Calls Try.prog 31 #[iP 11 2 d rd s1 s2 m] w fun e w' => e = .returned (.int .u64 (270532723 : Nat)) ∧ Grew W w' := by
  have ga := hg.alloc (.cells #[.int .i64 11, .int .i64 2, .bool d, .int .i64 (rd : Nat), .int .i64 (s1 : Nat), .int .i64 (s2 : Nat), .int .u64 (m : Nat)] 26)
  have ka := Blk.new w #[.int .i64 11, .int .i64 2, .bool d, .int .i64 (rd : Nat), .int .i64 (s1 : Nat), .int .i64 (s2 : Nat), .int .u64 (m : Nat)] 26 w.heap.size rfl
  go_enter Try.func31, Try.ntmps31
  go_wp2_with fail
  go_ret
  exact ⟨rfl, (by repeat (first | with_reducible exact ga | with_reducible refine Grew.alloc ?_ _))⟩
set_option maxRecDepth 100000 in
set_option maxHeartbeats 2000000 in
theorem wd_11_3 (d : Bool) (rd s1 s2 m : Nat) (h4 : rd < 32) (h5 : s1 < 32) (h6 : s2 < 32) (hm : m < 18446744073709551616) {W w : World} (hg : Grew W w) :
    Calls Try.prog 31 #[iP 11 3 d rd s1 s2 m] w fun e w' => e = .returned (.int .u64 (807403635 : Nat)) ∧ Grew W w' := by
  have ga := hg.alloc (.cells #[.int .i64 11, .int .i64 3, .bool d, .int .i64 (rd : Nat), .int .i64 (s1 : Nat), .int .i64 (s2 : Nat), .int .u64 (m : Nat)] 26)
  have ka := Blk.new w #[.int .i64 11, .int .i64 3, .bool d, .int .i64 (rd : Nat), .int .i64 (s1 : Nat), .int .i64 (s2 : Nat), .int .u64 (m : Nat)] 26 w.heap.size rfl
  go_enter Try.func31, Try.ntmps31
  go_wp2_with fail
  go_ret
  exact ⟨rfl, (by repeat (first | with_reducible exact ga | with_reducible refine Grew.alloc ?_ _))⟩
set_option maxRecDepth 100000 in
set_option maxHeartbeats 2000000 in
theorem wd_11_4 (d : Bool) (rd s1 s2 m : Nat) (h4 : rd < 32) (h5 : s1 < 32) (h6 : s2 < 32) (hm : m < 18446744073709551616) {W w : World} (hg : Grew W w) :
    Calls Try.prog 31 #[iP 11 4 d rd s1 s2 m] w fun e w' => e = .returned (.int .u64 (273678451 : Nat)) ∧ Grew W w' := by
  have ga := hg.alloc (.cells #[.int .i64 11, .int .i64 4, .bool d, .int .i64 (rd : Nat), .int .i64 (s1 : Nat), .int .i64 (s2 : Nat), .int .u64 (m : Nat)] 26)
  have ka := Blk.new w #[.int .i64 11, .int .i64 4, .bool d, .int .i64 (rd : Nat), .int .i64 (s1 : Nat), .int .i64 (s2 : Nat), .int .u64 (m : Nat)] 26 w.heap.size rfl
  go_enter Try.func31, Try.ntmps31
  go_wp2_with fail
  go_ret
  exact ⟨rfl, (by repeat (first | with_reducible exact ga | with_reducible refine Grew.alloc ?_ _))⟩
set_option maxRecDepth 100000 in
set_option maxHeartbeats 2000000 in
theorem wd_11n (f : Int) (d : Bool) (rd s1 s2 m : Nat) (h4 : rd < 32) (h5 : s1 < 32) (h6 : s2 < 32) (hm : m < 18446744073709551616) {W w : World} (hg : Grew W w) (h5f : ¬ f = 5) (hr : f < 0 ∨ 5 ≤ f) :
    Calls Try.prog 31 #[iP 11 f d rd s1 s2 m] w fun e w' => e = .returned (.int .u64 (0 : Nat)) ∧ Grew W w' := by
  have ga := hg.alloc (.cells #[.int .i64 11, .int .i64 f, .bool d, .int .i64 (rd : Nat), .int .i64 (s1 : Nat), .int .i64 (s2 : Nat), .int .u64 (m : Nat)] 26)
  have ka := Blk.new w #[.int .i64 11, .int .i64 f, .bool d, .int .i64 (rd : Nat), .int .i64 (s1 : Nat), .int .i64 (s2 : Nat), .int .u64 (m : Nat)] 26 w.heap.size rfl
  have hk := fl32 f
  have k32 : flN f 32 < 32 := flN_lt f 32 (by decide)
  have bf : (f == 5) = false := by rw [beq_eq_false_iff_ne]; exact h5f
  clear h5f
  generalize flN f 32 = q at *
  rcases hr with hr | hr
  all_goals
    go_enter Try.func31, Try.ntmps31
    go_wp2_with fail
    go_ret
    exact ⟨rfl, (by repeat (first | with_reducible exact ga | with_reducible refine Grew.alloc ?_ _))⟩
set_option maxRecDepth 100000 in
set_option maxHeartbeats 2000000 in
theorem wd_none (c : Int) (f : Int) (d : Bool) (rd s1 s2 m : Nat) (h4 : rd < 32) (h5 : s1 < 32) (h6 : s2 < 32) (hm : m < 18446744073709551616) {W w : World} (hg : Grew W w) (hn : c < 1 ∨ 13 < c) :
    Calls Try.prog 31 #[iP c f d rd s1 s2 m] w fun e w' => e = .returned (.int .u64 (0 : Nat)) ∧ Grew W w' := by
  have ga := hg.alloc (.cells #[.int .i64 c, .int .i64 f, .bool d, .int .i64 (rd : Nat), .int .i64 (s1 : Nat), .int .i64 (s2 : Nat), .int .u64 (m : Nat)] 26)
  have ka := Blk.new w #[.int .i64 c, .int .i64 f, .bool d, .int .i64 (rd : Nat), .int .i64 (s1 : Nat), .int .i64 (s2 : Nat), .int .u64 (m : Nat)] 26 w.heap.size rfl
  have hk := fl32 f
  have k32 : flN f 32 < 32 := flN_lt f 32 (by decide)
  have n1 : (c == 1) = false := by rw [beq_eq_false_iff_ne]; omega
  have n2 : (c == 2) = false := by rw [beq_eq_false_iff_ne]; omega
  have n3 : (c == 3) = false := by rw [beq_eq_false_iff_ne]; omega
  have n4 : (c == 4) = false := by rw [beq_eq_false_iff_ne]; omega
  have n5 : (c == 5) = false := by rw [beq_eq_false_iff_ne]; omega
  have n6 : (c == 6) = false := by rw [beq_eq_false_iff_ne]; omega
  have n7 : (c == 7) = false := by rw [beq_eq_false_iff_ne]; omega
  have n8 : (c == 8) = false := by rw [beq_eq_false_iff_ne]; omega
  have n9 : (c == 9) = false := by rw [beq_eq_false_iff_ne]; omega
  have n10 : (c == 10) = false := by rw [beq_eq_false_iff_ne]; omega
  have n11 : (c == 11) = false := by rw [beq_eq_false_iff_ne]; omega
  have n12 : (c == 12) = false := by rw [beq_eq_false_iff_ne]; omega
  have n13 : (c == 13) = false := by rw [beq_eq_false_iff_ne]; omega
  clear hn
  generalize flN f 32 = q at *
  go_enter Try.func31, Try.ntmps31
  go_wp2_with fail
  go_ret
  exact ⟨rfl, ga⟩
theorem word_c (c : Int) (f : Int) (d : Bool) (rd s1 s2 m : Nat) (h4 : rd < 32) (h5 : s1 < 32) (h6 : s2 < 32) (hm : m < 18446744073709551616) {W w : World} (hg : Grew W w) :
    Calls Try.prog 31 #[iP c f d rd s1 s2 m] w fun e w' => e = .returned (.int .u64 (wdN c f d rd s1 s2 m : Nat)) ∧ Grew W w' := by
  by_cases hn : c < 1 ∨ 13 < c
  · rw [show wdN c f d rd s1 s2 m = 0 by unfold wdN; repeat (first | rfl | rw [if_neg (by omega)])]
    exact wd_none c f d rd s1 s2 m h4 h5 h6 hm hg hn
  obtain rfl | rfl | rfl | rfl | rfl | rfl | rfl | rfl | rfl | rfl | rfl | rfl | rfl : c = 1 ∨ c = 2 ∨ c = 3 ∨ c = 4 ∨ c = 5 ∨ c = 6 ∨ c = 7 ∨ c = 8 ∨ c = 9 ∨ c = 10 ∨ c = 11 ∨ c = 12 ∨ c = 13 := by omega
  · rw [show wdN 1 f d rd s1 s2 m = putN 55 0 0 rd s1 s2 ||| m / 4096 % 1048576 * 4096 by simp [wdN]]
    exact wd_1 f d rd s1 s2 m h4 h5 h6 hm hg
  · rw [show wdN 2 f d rd s1 s2 m = putN 23 0 0 rd s1 s2 ||| m / 4096 % 1048576 * 4096 by simp [wdN]]
    exact wd_2 f d rd s1 s2 m h4 h5 h6 hm hg
  · rw [show wdN 3 f d rd s1 s2 m = putN 111 0 0 rd s1 s2 ||| jmpN m by simp [wdN]]
    exact wd_3 f d rd s1 s2 m h4 h5 h6 hm hg
  · rw [show wdN 4 f d rd s1 s2 m = putN 103 0 0 rd s1 s2 ||| i12N m by simp [wdN]]
    exact wd_4 f d rd s1 s2 m h4 h5 h6 hm hg
  · rw [show wdN 5 f d rd s1 s2 m = putN 99 (flN f 32) 0 rd s1 s2 ||| brcN m by simp [wdN]]
    exact wd_5 f d rd s1 s2 m h4 h5 h6 hm hg
  · rw [show wdN 6 f d rd s1 s2 m = putN 3 (flN f 32) 0 rd s1 s2 ||| i12N m by simp [wdN]]
    exact wd_6 f d rd s1 s2 m h4 h5 h6 hm hg
  · rw [show wdN 7 f d rd s1 s2 m = putN 35 (flN f 32) (m / 32 % 128) rd s1 s2 ||| m % 32 * 128 by simp [wdN]]
    exact wd_7 f d rd s1 s2 m h4 h5 h6 hm hg
  · by_cases hf : f = 13
    · cases d
      · rw [show wdN 8 f false rd s1 s2 m = putN 19 5 32 rd s1 s2 ||| m % 64 * 1048576 by unfold wdN; simp [hf]]
        exact wd_8r_false f rd s1 s2 m h4 h5 h6 hm hg hf
      · rw [show wdN 8 f true rd s1 s2 m = putN 27 5 32 rd s1 s2 ||| m % 64 * 1048576 by unfold wdN; simp [hf]]
        exact wd_8r_true f rd s1 s2 m h4 h5 h6 hm hg hf
    · cases d
      · rw [show wdN 8 f false rd s1 s2 m = putN 19 (flN f 32) 0 rd s1 s2 ||| i12N m by unfold wdN; simp [hf]]
        exact wd_8_false f rd s1 s2 m h4 h5 h6 hm hg hf
      · rw [show wdN 8 f true rd s1 s2 m = putN 27 (flN f 32) 0 rd s1 s2 ||| i12N m by unfold wdN; simp [hf]]
        exact wd_8_true f rd s1 s2 m h4 h5 h6 hm hg hf
  · rw [show wdN 9 f d rd s1 s2 m = sumN f d rd s1 s2 by simp [wdN]]
    exact wd_9 f d rd s1 s2 m h4 h5 h6 hm hg
  · rw [show wdN 10 f d rd s1 s2 m = putN 15 (flN f 32) 0 rd s1 s2 by simp [wdN]]
    exact wd_10 f d rd s1 s2 m h4 h5 h6 hm hg
  · by_cases hf : f = 5
    · rw [show wdN 11 f d rd s1 s2 m = putN 115 0 9 rd s1 s2 by unfold wdN; simp [hf]]
      exact wd_11s f d rd s1 s2 m h4 h5 h6 hm hg hf
    · by_cases hr : f < 0 ∨ 5 ≤ f
      · rw [show wdN 11 f d rd s1 s2 m = 0 by
          show (if f = 5 then _ else if 0 ≤ f ∧ f < 5 then _ else 0) = 0
          rw [if_neg hf, if_neg (by omega)]]
        exact wd_11n f d rd s1 s2 m h4 h5 h6 hm hg hf hr
      · obtain rfl | rfl | rfl | rfl | rfl : f = 0 ∨ f = 1 ∨ f = 2 ∨ f = 3 ∨ f = 4 := by omega
        · rw [show wdN 11 0 d rd s1 s2 m = 115 by simp [wdN, wrdW]]
          exact wd_11_0 d rd s1 s2 m h4 h5 h6 hm hg
        · rw [show wdN 11 1 d rd s1 s2 m = 1048691 by simp [wdN, wrdW]]
          exact wd_11_1 d rd s1 s2 m h4 h5 h6 hm hg
        · rw [show wdN 11 2 d rd s1 s2 m = 270532723 by simp [wdN, wrdW]]
          exact wd_11_2 d rd s1 s2 m h4 h5 h6 hm hg
        · rw [show wdN 11 3 d rd s1 s2 m = 807403635 by simp [wdN, wrdW]]
          exact wd_11_3 d rd s1 s2 m h4 h5 h6 hm hg
        · rw [show wdN 11 4 d rd s1 s2 m = 273678451 by simp [wdN, wrdW]]
          exact wd_11_4 d rd s1 s2 m h4 h5 h6 hm hg
  · rw [show wdN 12 f d rd s1 s2 m = putN 115 (flN f 32) 0 rd s1 s2 ||| i12N m by simp [wdN]]
    exact wd_12 f d rd s1 s2 m h4 h5 h6 hm hg
  · cases d
    · rw [show wdN 13 f false rd s1 s2 m = putN 47 3 (flN f 32 * 4) rd s1 s2 by simp [wdN]]
      exact wd_13_false f rd s1 s2 m h4 h5 h6 hm hg
    · rw [show wdN 13 f true rd s1 s2 m = putN 47 2 (flN f 32 * 4) rd s1 s2 by simp [wdN]]
      exact wd_13_true f rd s1 s2 m h4 h5 h6 hm hg
theorem lt_if {p : Prop} [Decidable p] {x y : Nat} (h1 : x < 4294967296) (h2 : y < 4294967296) : (if p then x else y) < 4294967296 := by split <;> assumption
theorem wdN_lt (c f : Int) (d : Bool) (rd s1 s2 m : Nat) (h4 : rd < 32) (h5 : s1 < 32) (h6 : s2 < 32) : wdN c f d rd s1 s2 m < 4294967296 := by
  have hq : flN f 32 < 32 := flN_lt f 32 (by decide)
  have h8 : flN f 8 < 8 := flN_lt f 8 (by decide)
  have p : ∀ op k hi : Nat, op < 128 → k < 32 → hi < 128 → putN op k hi rd s1 s2 < 4294967296 := fun op k hi a b c => putN_lt op k hi rd s1 s2 a b c h4 h5 h6
  have hd : (if d then 27 else 19) < 128 := by split <;> decide
  have hd2 : (if d then 2 else 3) < 32 := by split <;> decide
  have ho : opsN d < 128 := by unfold opsN; split <;> decide
  have hs : sumN f d rd s1 s2 < 4294967296 := by
    unfold sumN
    split
    · exact p _ _ _ ho (by omega) (by decide)
    · split <;> exact p _ _ _ ho (by omega) (by decide)
  have hw : ∀ n : Nat, wrdW.getD n 0 < 4294967296 := by
    intro n
    rcases n with _ | _ | _ | _ | _ | n <;> simp [wrdW]
  unfold wdN
  refine lt_if (or32_lt (p _ _ _ (by decide) (by decide) (by decide)) (by omega)) (lt_if (or32_lt (p _ _ _ (by decide) (by decide) (by decide)) (by omega)) (lt_if (or32_lt (p _ _ _ (by decide) (by decide) (by decide)) (jmpN_lt m)) (lt_if (or32_lt (p _ _ _ (by decide) (by decide) (by decide)) (i12N_lt m))
    (lt_if (or32_lt (p _ _ _ (by decide) hq (by decide)) (brcN_lt m)) (lt_if (or32_lt (p _ _ _ (by decide) hq (by decide)) (i12N_lt m)) (lt_if (or32_lt (p _ _ _ (by decide) hq (by omega)) (by omega))
    (lt_if (lt_if (or32_lt (p _ _ _ hd (by decide) (by decide)) (by omega)) (or32_lt (p _ _ _ hd hq (by decide)) (i12N_lt m))) (lt_if hs (lt_if (p _ _ _ (by decide) hq (by decide))
    (lt_if (lt_if (p _ _ _ (by decide) (by decide) (by decide)) (lt_if (hw _) (by decide))) (lt_if (or32_lt (p _ _ _ (by decide) hq (by decide)) (i12N_lt m)) (lt_if (p _ _ _ (by decide) hd2 (by omega)) (by decide)))))))))))))
end Go.Proofs.Ytgekmhcekkmdhaa
