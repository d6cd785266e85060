/-
  Package csr's Read and Write.
-/
import Derived.Test.YtpehfmchcjanhaaDoorCsrE
import Derived.Test.YtpehfmchcjanhaaDoorCsrI
set_option linter.unusedVariables false
set_option linter.unusedSimpArgs false
namespace Go.Proofs.YtpehfmchcjanhaaDoor
open Go.RowKit

/-- What the two sentinels are in a world. -/
structure Sen (W : World) (a0 a1 : Addr) : Prop where
  z : 1 < W.heap.size
  c0 : W.cell? ⟨0, 0, none⟩ = some (erV a0)
  c1 : W.cell? ⟨1, 0, none⟩ = some (erV a1)
  b0 : ∃ c t, Blk W a0.block c t
  b1 : ∃ c t, Blk W a1.block c t
  ne : a1 ≠ a0
theorem Sen.grew {W w : World} {a0 a1 : Addr} (s : Sen W a0 a1) (g : Grew W w) : Sen w a0 a1 where
  z := by have := g.size; have := s.z; omega
  c0 := by rw [(gcell g).1 0 0 (by have := s.z; omega)]; exact s.c0
  c1 := by rw [(gcell g).1 1 0 s.z]; exact s.c1
  b0 := by obtain ⟨c, t, h⟩ := s.b0; exact ⟨c, t, h.grew g⟩
  b1 := by obtain ⟨c, t, h⟩ := s.b1; exact ⟨c, t, h.grew g⟩
  ne := s.ne
/-- What is read of each register. -/
def valA (c : Nat → Int) : Array Int := #[bits .or .u64 (bits .and .u64 (c 0) 786722) 8589934592, bits .and .u64 (c 3) (c 2), c 10, c 11, c 12, c 13, c 14, bits .and .u64 (c 4) (c 2), c 15, bits .or .u64 (bits .andNot .u64 (c 0) 64424509440) 42949672960, 9223372036856090885, c 1, c 2, c 3, c 5, c 6, c 7, c 8, c 9, c 4, c 16, c 16, 0, 0, 0, 0]
def valR (c : Nat → Int) (k : Nat) : Int := (valA c).getD k 0
theorem rd_at (c : Nat → Int) (k : Nat) (hk : k < 26) : (∀ w : World, (callFunc (fnR k) #[csV c]).run Tryd.prog w = .ok (.enter (fnR k) #[csV c]) w) ∧
    ∀ {W w : World}, Grew W w → Calls Tryd.prog (fnR k) #[csV c] w fun e w' => e = .returned (.int .u64 (valR c k)) ∧ Grew W w' := by
  obtain rfl | rfl | rfl | rfl | rfl | rfl | rfl | rfl | rfl | rfl | rfl | rfl | rfl | rfl | rfl | rfl | rfl | rfl | rfl | rfl | rfl | rfl | rfl | rfl | rfl | rfl : k = 0 ∨ k = 1 ∨ k = 2 ∨ k = 3 ∨ k = 4 ∨ k = 5 ∨ k = 6 ∨ k = 7 ∨ k = 8 ∨ k = 9 ∨ k = 10 ∨ k = 11 ∨ k = 12 ∨ k = 13 ∨ k = 14 ∨ k = 15 ∨ k = 16 ∨ k = 17 ∨ k = 18 ∨ k = 19 ∨ k = 20 ∨ k = 21 ∨ k = 22 ∨ k = 23 ∨ k = 24 ∨ k = 25 := by omega
  · exact ⟨fun _ => by kernel_rfl, fun hg => r_sstatus c hg⟩
  · exact ⟨fun _ => by kernel_rfl, fun hg => r_sie c hg⟩
  · exact ⟨fun _ => by kernel_rfl, fun hg => r_stvec c hg⟩
  · exact ⟨fun _ => by kernel_rfl, fun hg => r_sscratch c hg⟩
  · exact ⟨fun _ => by kernel_rfl, fun hg => r_sepc c hg⟩
  · exact ⟨fun _ => by kernel_rfl, fun hg => r_scause c hg⟩
  · exact ⟨fun _ => by kernel_rfl, fun hg => r_stval c hg⟩
  · exact ⟨fun _ => by kernel_rfl, fun hg => r_sip c hg⟩
  · exact ⟨fun _ => by kernel_rfl, fun hg => r_satp c hg⟩
  · exact ⟨fun _ => by kernel_rfl, fun hg => r_mstatus c hg⟩
  · exact ⟨fun _ => by kernel_rfl, fun hg => r_misa c hg⟩
  · exact ⟨fun _ => by kernel_rfl, fun hg => r_medeleg c hg⟩
  · exact ⟨fun _ => by kernel_rfl, fun hg => r_mideleg c hg⟩
  · exact ⟨fun _ => by kernel_rfl, fun hg => r_mie c hg⟩
  · exact ⟨fun _ => by kernel_rfl, fun hg => r_mtvec c hg⟩
  · exact ⟨fun _ => by kernel_rfl, fun hg => r_mscratch c hg⟩
  · exact ⟨fun _ => by kernel_rfl, fun hg => r_mepc c hg⟩
  · exact ⟨fun _ => by kernel_rfl, fun hg => r_mcause c hg⟩
  · exact ⟨fun _ => by kernel_rfl, fun hg => r_mtval c hg⟩
  · exact ⟨fun _ => by kernel_rfl, fun hg => r_mip c hg⟩
  · exact ⟨fun _ => by kernel_rfl, fun hg => r_cycle c hg⟩
  · exact ⟨fun _ => by kernel_rfl, fun hg => r_cycle c hg⟩
  · exact ⟨fun _ => by kernel_rfl, fun hg => r_zero c hg⟩
  · exact ⟨fun _ => by kernel_rfl, fun hg => r_zero c hg⟩
  · exact ⟨fun _ => by kernel_rfl, fun hg => r_zero c hg⟩
  · exact ⟨fun _ => by kernel_rfl, fun hg => r_zero c hg⟩

set_option maxRecDepth 100000 in
set_option maxHeartbeats 1000000 in
theorem read_ok (c : Nat → Int) (k : Nat) (hk : k < 26) (p : Int) (hl : decide (p < lvV (nmR k)) = false) (hh : hidB c (nmR k) p = false) (ho : roB (nmR k) = false) (a0 a1 : Addr) {W w : World} (sn : Sen W a0 a1) (hg : Grew W w) :
    Calls Tryd.prog 11 #[csV c, .int .i64 (nmR k), .int .i64 p] w fun e w' => e = .returned (.tuple #[.int .u64 (valR c k), .bool true]) ∧ Grew W w' := by
  obtain ⟨hcf, hrd⟩ := rd_at c k hk
  have hgs := hg.size
  have HK := Lib.hid hk
  have HL := Lib.hid hl
  have HH := Lib.hid hh
  have HO := Lib.hid ho
  clear hk hl hh ho
  go_enter Tryd.func11, Tryd.ntmps11
  go_wp2_with (first
    | ((with_reducible refine ld_cs rfl (.tmp 3) rfl _ rfl (Blk.new w _ _ _ rfl) ?_ ?_); (rotate_left 1))
    | ((with_reducible refine st_stG rfl (.tmp 8) (.tmp 11) rfl rfl c (Blk.new2b _ _ _ _) ?_ ?_ ?_ ((hg.alloc _).alloc _) (Nat.le_succ_of_le hgs) ?_); (rotate_left 3); intro w1 kb1 g1 _ _)
    | ((with_reducible refine ld_st rfl (.tmp 8) rfl _ rfl kb1 ?_ ?_); (rotate_left 1))
    | fail)
  refine (find_ok c k HK.out p HL.out HH.out HO.out a0 a1 (Grew.refl w1) (sn.grew g1).z (sn.grew g1).c0 (sn.grew g1).c1).mono ?_
  rintro e w2 ⟨rfl, g2'⟩
  have g2 := g1.trans g2'
  have kb2 := kb1.grew g2'
  have S2 := sn.grew g2
  have hc0 := S2.c0
  go_wp2_with fail
  refine (is_nil _ _).mono ?_
  rintro e w3 ⟨rfl, rfl⟩
  have g3 := g2
  clear hc0
  go_wp2_with (first
    | ((with_reducible refine ld_st rfl (.tmp 8) rfl _ rfl kb2 ?_ ?_); (rotate_left 1))
    | fail)
  refine (hrd g3).mono ?_
  rintro e w4 ⟨rfl, g4⟩
  go_wp2_with fail
  · go_ret2
    exact ⟨rfl, g4⟩
  all_goals rfl


set_option maxRecDepth 100000 in
set_option maxHeartbeats 1000000 in
theorem read_only (c : Nat → Int) (k : Nat) (hk : k < 26) (p : Int) (hl : decide (p < lvV (nmR k)) = false) (hh : hidB c (nmR k) p = false) (ho : roB (nmR k) = true) (a0 a1 : Addr) {W w : World} (sn : Sen W a0 a1) (hg : Grew W w) :
    Calls Tryd.prog 11 #[csV c, .int .i64 (nmR k), .int .i64 p] w fun e w' => e = .returned (.tuple #[.int .u64 (valR c k), .bool true]) ∧ Grew W w' := by
  obtain ⟨hcf, hrd⟩ := rd_at c k hk
  have hgs := hg.size
  have HK := Lib.hid hk
  have HL := Lib.hid hl
  have HH := Lib.hid hh
  have HO := Lib.hid ho
  clear hk hl hh ho
  go_enter Tryd.func11, Tryd.ntmps11
  go_wp2_with (first
    | ((with_reducible refine ld_cs rfl (.tmp 3) rfl _ rfl (Blk.new w _ _ _ rfl) ?_ ?_); (rotate_left 1))
    | ((with_reducible refine st_stG rfl (.tmp 8) (.tmp 11) rfl rfl c (Blk.new2b _ _ _ _) ?_ ?_ ?_ ((hg.alloc _).alloc _) (Nat.le_succ_of_le hgs) ?_); (rotate_left 3); intro w1 kb1 g1 _ _)
    | ((with_reducible refine ld_st rfl (.tmp 8) rfl _ rfl kb1 ?_ ?_); (rotate_left 1))
    | fail)
  refine (find_only c k HK.out p HL.out HH.out HO.out a0 a1 (Grew.refl w1) (sn.grew g1).z (sn.grew g1).c0 (sn.grew g1).c1).mono ?_
  rintro e w2 ⟨rfl, g2'⟩
  have g2 := g1.trans g2'
  have kb2 := kb1.grew g2'
  have S2 := sn.grew g2
  have hc0 := S2.c0
  go_wp2_with fail
  refine (is_other _ _ _ _ sn.ne (S2.b1) (S2.b0) (Grew.refl _)).mono ?_
  rintro e w3 ⟨rfl, g3'⟩
  have g3 := g2.trans g3'
  have kb3 := kb2.grew g3'
  clear hc0
  go_wp2_with (first
    | ((with_reducible refine ld_st rfl (.tmp 8) rfl _ rfl kb3 ?_ ?_); (rotate_left 1))
    | fail)
  refine (hrd g3).mono ?_
  rintro e w4 ⟨rfl, g4⟩
  go_wp2_with fail
  · go_ret2
    exact ⟨rfl, g4⟩
  all_goals rfl


theorem read_refused (c : Nat → Int) (n p : Int) (a0 a1 : Addr) {W w : World} (sn : Sen W a0 a1) (hg : Grew W w)
    (F : ∀ {W w : World}, Sen W a0 a1 → Grew W w → Calls Tryd.prog 16 #[csV c, .int .i64 n, .int .i64 p] w fun e w' => e = .returned (.tuple #[.nilFunc, rsV n p (erV a0)]) ∧ Grew W w') :
    Calls Tryd.prog 11 #[csV c, .int .i64 n, .int .i64 p] w fun e w' => e = .returned (.tuple #[.int .u64 0, .bool false]) ∧ Grew W w' := by
  have hgs := hg.size
  go_enter Tryd.func11, Tryd.ntmps11
  go_wp2_with (first
    | ((with_reducible refine ld_cs rfl (.tmp 3) rfl _ rfl (Blk.new w _ _ _ rfl) ?_ ?_); (rotate_left 1))
    | ((with_reducible refine st_stG rfl (.tmp 8) (.tmp 11) rfl rfl c (Blk.new2b _ _ _ _) ?_ ?_ ?_ ((hg.alloc _).alloc _) (Nat.le_succ_of_le hgs) ?_); (rotate_left 3); intro w1 kb1 g1 ke1 hz1)
    | ((with_reducible refine ld_st rfl (.tmp 8) rfl _ rfl kb1 ?_ ?_); (rotate_left 1))
    | fail)
  refine (F (sn.grew g1) (Grew.refl w1)).mono ?_
  rintro e w2 ⟨rfl, g2'⟩
  have g2 := g1.trans g2'
  have hc0 := (sn.grew g2).c0
  go_wp2_with fail
  refine (is_same _ _ _ (Grew.refl _)).mono ?_
  rintro e w3 ⟨rfl, g3'⟩
  have g3 := g2.trans g3'
  go_wp2_with fail
  · go_ret2
    exact ⟨rfl, g3⟩
  all_goals rfl


theorem Blk.new3 (w : World) (o1 o2 : Obj) (cs : Array Value) (T : TypeId) : Blk (((w.alloc o1).alloc o2).alloc (.cells cs T)) (w.heap.size + 2) cs T := Blk.new _ cs T _ (by simp)
theorem Blk.new3b (w : World) (o1 : Obj) (cs : Array Value) (T : TypeId) (o2 : Obj) : Blk (((w.alloc o1).alloc (.cells cs T)).alloc o2) (w.heap.size + 1) cs T := (Blk.new2b w o1 cs T).alloc o2
theorem Blk.new3a (w : World) (cs : Array Value) (T : TypeId) (o1 o2 : Obj) : Blk (((w.alloc (.cells cs T)).alloc o1).alloc o2) w.heap.size cs T := (Blk.new2 w cs T o1).alloc o2
theorem results_cs {fn : Func} {p q : Tmp} (h : fn.results = #[.cell p 24, .tmp q]) (tmps : Array Value) (w : World) (g : Nat) {c : Nat → Int} {T : TypeId} (k : Blk w g (csA c) T)
    (hp : tmps.getD p undef = .pointer (some ⟨g, 0, none⟩)) : (results fn tmps).run Tryd.prog w = .ok (.tuple #[csV c, tmps.getD q undef]) w := by
  have hp' : tmps[p]?.getD undef = .pointer (some ⟨g, 0, none⟩) := by simpa using hp
  simp [results, h, hp', asAddr, var_cs k]
theorem zeros_eq : (#[.int .u64 0, .int .u64 0, .int .u64 0, .int .u64 0, .int .u64 0, .int .u64 0, .int .u64 0, .int .u64 0, .int .u64 0, .int .u64 0, .int .u64 0, .int .u64 0, .int .u64 0, .int .u64 0, .int .u64 0, .int .u64 0, .int .u64 0] : Array Value) = csA fun _ => 0 := rfl
set_option maxRecDepth 100000 in
set_option maxHeartbeats 1000000 in
theorem write_refused (c : Nat → Int) (n p x : Int) (rd : Value) (a a0 a1 : Addr) {W w : World} (sn : Sen W a0 a1) (hg : Grew W w)
    (F : ∀ {W w : World}, Sen W a0 a1 → Grew W w → Calls Tryd.prog 16 #[csV c, .int .i64 n, .int .i64 p] w fun e w' => e = .returned (.tuple #[rd, rsV n p (erV a)]) ∧ Grew W w') :
    Calls Tryd.prog 10 #[csV c, .int .i64 n, .int .i64 p, .int .u64 x] w fun e w' => e = .returned (.tuple #[csV c, .bool false]) ∧ Grew W w' := by
  have hgs := hg.size
  go_enter Tryd.func10, Tryd.ntmps10
  go_wp2_with (first
    | ((with_reducible refine ld_cs rfl (.tmp 4) rfl _ rfl (Blk.new2 w _ _ _) ?_ ?_); (rotate_left 1))
    | ((with_reducible refine st_stG rfl (.tmp 10) (.tmp 13) rfl rfl c (Blk.new3 _ _ _ _ _) ?_ ?_ ?_ (((hg.alloc _).alloc _).alloc _) (Nat.le_succ_of_le (Nat.le_succ_of_le hgs)) ?_); (rotate_left 3); intro w1 kb1 g1 ke1 _; have kc1 : Blk w1 w.heap.size (csA c) 24 := ke1 _ _ _ (by omega) (Blk.new3a w (csA c) 24 _ _); have kz1 : Blk w1 (w.heap.size + 1) (csA fun _ => 0) 24 := ke1 _ _ _ (by omega) (Blk.new3b w _ _ _ _); clear ke1)
    | ((with_reducible refine ld_st rfl (.tmp 10) rfl _ rfl kb1 ?_ ?_); (rotate_left 1))
    | fail)
  refine (F (sn.grew g1) (Grew.refl w1)).mono ?_
  rintro e w2 ⟨rfl, g2'⟩
  have g2 := g1.trans g2'
  have kc2 := kc1.grew g2'
  have kz2 := kz1.grew g2'
  clear F kb1 kc1 kz1
  go_wp2_with (first
    | ((with_reducible refine ld_cs rfl (.tmp 4) rfl _ rfl kc2 ?_ ?_); (rotate_left 1))
    | ((with_reducible refine st_csG rfl (.tmp 8) (.tmp 23) rfl rfl c kz2 (csA_size _) ?_ ?_ g2 (Nat.le_succ_of_le hgs) ?_); (rotate_left 2); intro w3 kb3 g3 _ _)
    | fail)
  · exact bodyPost_ret (v := .tuple #[csV c, .bool false]) (results_cs (p := 8) (q := 9) Tryd.results10 _ _ (w.heap.size + 1) kb3 rfl) rfl ⟨rfl, g3⟩
  all_goals rfl

set_option maxRecDepth 100000 in
set_option maxHeartbeats 1000000 in
theorem write_done (c d : Nat → Int) (n p x : Int) (rd : Value) (a0 a1 : Addr) {W w : World} (sn : Sen W a0 a1) (hg : Grew W w)
    (F : ∀ {W w : World}, Sen W a0 a1 → Grew W w → Calls Tryd.prog 16 #[csV c, .int .i64 n, .int .i64 p] w fun e w' => e = .returned (.tuple #[rd, .nilIface]) ∧ Grew W w')
    (T : ∀ {W w : World}, Grew W w → Calls Tryd.prog 17 #[csV c, .int .i64 n, .int .u64 x] w fun e w' => e = .returned (csV d) ∧ Grew W w') :
    Calls Tryd.prog 10 #[csV c, .int .i64 n, .int .i64 p, .int .u64 x] w fun e w' => e = .returned (.tuple #[csV d, .bool true]) ∧ Grew W w' := by
  have hgs := hg.size
  go_enter Tryd.func10, Tryd.ntmps10
  go_wp2_with (first
    | ((with_reducible refine ld_cs rfl (.tmp 4) rfl _ rfl (Blk.new2 w _ _ _) ?_ ?_); (rotate_left 1))
    | ((with_reducible refine st_stG rfl (.tmp 10) (.tmp 13) rfl rfl c (Blk.new3 _ _ _ _ _) ?_ ?_ ?_ (((hg.alloc _).alloc _).alloc _) (Nat.le_succ_of_le (Nat.le_succ_of_le hgs)) ?_); (rotate_left 3); intro w1 kb1 g1 ke1 _; have kc1 : Blk w1 w.heap.size (csA c) 24 := ke1 _ _ _ (by omega) (Blk.new3a w (csA c) 24 _ _); have kz1 : Blk w1 (w.heap.size + 1) (csA fun _ => 0) 24 := ke1 _ _ _ (by omega) (Blk.new3b w _ _ _ _); clear ke1)
    | ((with_reducible refine ld_st rfl (.tmp 10) rfl _ rfl kb1 ?_ ?_); (rotate_left 1))
    | fail)
  refine (F (sn.grew g1) (Grew.refl w1)).mono ?_
  rintro e w2 ⟨rfl, g2'⟩
  have g2 := g1.trans g2'
  have kb2 := kb1.grew g2'
  have kz2 := kz1.grew g2'
  clear F kb1 kc1 kz1
  go_wp2_with (first
    | ((with_reducible refine ld_st rfl (.tmp 10) rfl _ rfl kb2 ?_ ?_); (rotate_left 1))
    | fail)
  refine (T (Grew.refl w2)).mono ?_
  rintro e w3 ⟨rfl, g3'⟩
  have g3 := g2.trans g3'
  have kz3 := kz2.grew g3'
  clear T kb2 kz2
  go_wp2_with (first
    | ((with_reducible refine st_csG rfl (.tmp 8) (.tmp 27) rfl rfl d kz3 (csA_size _) ?_ ?_ g3 (Nat.le_succ_of_le hgs) ?_); (rotate_left 2); intro w4 kb4 g4 _ _)
    | fail)
  · exact bodyPost_ret (v := .tuple #[csV d, .bool true]) (results_cs (p := 8) (q := 9) Tryd.results10 _ _ (w.heap.size + 1) kb4 rfl) rfl ⟨rfl, g4⟩
  all_goals rfl

end Go.Proofs.YtpehfmchcjanhaaDoor
