/-
  Package plic: registers, whichever (Reg); find.
-/
import Derived.Test.YtgcfmijkggpemaaGreatPlI
import Derived.Test.YtgcfmijkggpemaaGreatPlF
set_option maxRecDepth 4000
set_option linter.unusedVariables false
set_option linter.unusedSimpArgs false
namespace Go.Proofs.YtgcfmijkggpemaaGreat
open Go.RowKit

theorem stay_c (x : Int) (w : World) : Calls Tryz.prog 115 #[.int .u32 x] w fun e w' => e = .returned (.tuple #[]) ∧ w = w' := by
  go_enter Tryz.func115, Tryz.ntmps115
  go_wp2_with fail
  go_end0
  exact ⟨rfl, rfl⟩
/-- What stands at a place: how it is loaded and stored. -/
structure Reg (off r : Int) (kl ks : FuncId) (aL aS : Nat → Array Value) : Prop where
  look : ∀ (c : Nat) (s : VS) (w : World), Blk w c s.ctl 87 → Calls Tryz.prog 98 #[.pointer (some ⟨c, 0, none⟩), .int .u64 off] w fun e w' => e = .returned (.tuple #[.agg #[.func (.func kl) (aL c) #[], .func (.func ks) (aS c) #[]], .bool true]) ∧ Grew w w'
  enterL : ∀ (c : Nat) (w : World), (callFunc kl (aL c)).run Tryz.prog w = .ok (.enter kl (aL c)) w
  enterS : ∀ (c : Nat) (x : Int) (w : World), (callFunc ks ((aS c).push (.int .u32 x))).run Tryz.prog w = .ok (.enter ks ((aS c).push (.int .u32 x))) w
  load : ∀ (c : Nat) (s : VS), s.Ok → ∀ w : World, Blk w c s.ctl 87 → Calls Tryz.prog kl (aL c) w fun e w' => e = .returned (.int .u32 (s.load r)) ∧ Blk w' c (s.loaded r).ctl 87 ∧ Trn c w w'
  store : ∀ (c : Nat) (s : VS), s.Ok → ∀ x : Int, 0 ≤ x → x < 4294967296 → ∀ w : World, Blk w c s.ctl 87 → Calls Tryz.prog ks ((aS c).push (.int .u32 x)) w fun e w' => e = .returned (.tuple #[]) ∧ Blk w' c (s.store r x).ctl 87 ∧ Trn c w w'
theorem reg_1 : Reg 4 1 112 113 (fun c => #[.pointer (some ⟨c, 1, none⟩)]) (fun c => #[.pointer (some ⟨c, 1, none⟩)]) :=
  ⟨fun c s w h => look_1 c h, fun _ _ => by kernel_rfl, fun _ _ _ => by kernel_rfl, fun c s hs w h => (lvl_load h (o := 1) (x := s.p1) rfl hs.p1.1 hs.p1.2).mono fun e w' ⟨h1, h2⟩ => ⟨h1, h2 ▸ h, h2 ▸ Trn.refl c w⟩, fun c s hs x h0 h1 w h => lvl_store h (o := 1) (by simp) h0 h1⟩
theorem reg_2 : Reg 8 2 112 113 (fun c => #[.pointer (some ⟨c, 2, none⟩)]) (fun c => #[.pointer (some ⟨c, 2, none⟩)]) :=
  ⟨fun c s w h => look_2 c h, fun _ _ => by kernel_rfl, fun _ _ _ => by kernel_rfl, fun c s hs w h => (lvl_load h (o := 2) (x := s.p2) rfl hs.p2.1 hs.p2.2).mono fun e w' ⟨h1, h2⟩ => ⟨h1, h2 ▸ h, h2 ▸ Trn.refl c w⟩, fun c s hs x h0 h1 w h => lvl_store h (o := 2) (by simp) h0 h1⟩
theorem reg_3 : Reg 4096 3 114 115 (fun c => #[.pointer (some ⟨c, 3, none⟩)]) (fun _ => #[]) :=
  ⟨fun c s w h => look_3 c h, fun _ _ => by kernel_rfl, fun _ _ _ => by kernel_rfl, fun c s hs w h => (src_load h (o := 3) (x := s.n) rfl hs.n.bd.1 (by have := hs.n.bd; omega)).mono fun e w' ⟨h1, h2⟩ => ⟨h1, h2 ▸ h, h2 ▸ Trn.refl c w⟩, fun c s hs x h0 h1 w h => (stay_c x w).mono fun e w' ⟨h1, h2⟩ => ⟨h1, h2 ▸ h, h2 ▸ Trn.refl c w⟩⟩
theorem reg_4 : Reg 8192 4 114 117 (fun c => #[.pointer (some ⟨c, 5, none⟩)]) (fun c => #[.pointer (some ⟨c, 5, none⟩)]) :=
  ⟨fun c s w h => look_4 c h, fun _ _ => by kernel_rfl, fun _ _ _ => by kernel_rfl, fun c s hs w h => (src_load h (o := 5) (x := s.e0) rfl hs.e0.bd.1 (by have := hs.e0.bd; omega)).mono fun e w' ⟨h1, h2⟩ => ⟨h1, h2 ▸ h, h2 ▸ Trn.refl c w⟩, fun c s hs x h0 h1 w h => src_store h (o := 5) (by simp) h0 h1⟩
theorem reg_5 : Reg 8320 5 114 117 (fun c => #[.pointer (some ⟨c, 7, none⟩)]) (fun c => #[.pointer (some ⟨c, 7, none⟩)]) :=
  ⟨fun c s w h => look_5 c h, fun _ _ => by kernel_rfl, fun _ _ _ => by kernel_rfl, fun c s hs w h => (src_load h (o := 7) (x := s.e1) rfl hs.e1.bd.1 (by have := hs.e1.bd; omega)).mono fun e w' ⟨h1, h2⟩ => ⟨h1, h2 ▸ h, h2 ▸ Trn.refl c w⟩, fun c s hs x h0 h1 w h => src_store h (o := 7) (by simp) h0 h1⟩
theorem reg_6 : Reg 2097152 6 112 113 (fun c => #[.pointer (some ⟨c, 6, none⟩)]) (fun c => #[.pointer (some ⟨c, 6, none⟩)]) :=
  ⟨fun c s w h => look_6 c h, fun _ _ => by kernel_rfl, fun _ _ _ => by kernel_rfl, fun c s hs w h => (lvl_load h (o := 6) (x := s.t0) rfl hs.t0.1 hs.t0.2).mono fun e w' ⟨h1, h2⟩ => ⟨h1, h2 ▸ h, h2 ▸ Trn.refl c w⟩, fun c s hs x h0 h1 w h => lvl_store h (o := 6) (by simp) h0 h1⟩
theorem reg_7 : Reg 2101248 7 112 113 (fun c => #[.pointer (some ⟨c, 8, none⟩)]) (fun c => #[.pointer (some ⟨c, 8, none⟩)]) :=
  ⟨fun c s w h => look_7 c h, fun _ _ => by kernel_rfl, fun _ _ _ => by kernel_rfl, fun c s hs w h => (lvl_load h (o := 8) (x := s.t1) rfl hs.t1.1 hs.t1.2).mono fun e w' ⟨h1, h2⟩ => ⟨h1, h2 ▸ h, h2 ▸ Trn.refl c w⟩, fun c s hs x h0 h1 w h => lvl_store h (o := 8) (by simp) h0 h1⟩
theorem reg_8 : Reg 2097156 8 118 119 (fun c => #[.agg #[.pointer (some ⟨c, 0, none⟩), .pointer (some ⟨c, 5, none⟩)]]) (fun c => #[.agg #[.pointer (some ⟨c, 0, none⟩), .pointer (some ⟨c, 5, none⟩)]]) :=
  ⟨fun c s w h => look_8 c h, fun _ _ => by kernel_rfl, fun _ _ _ => by kernel_rfl, fun c s hs w h => claim_c hs (x := 0) (by omega) h, fun c s hs x h0 h1 w h => giveBack_c (x := 0) (by omega) x h0 h1 h⟩
theorem reg_9 : Reg 2101252 9 118 119 (fun c => #[.agg #[.pointer (some ⟨c, 0, none⟩), .pointer (some ⟨c, 7, none⟩)]]) (fun c => #[.agg #[.pointer (some ⟨c, 0, none⟩), .pointer (some ⟨c, 7, none⟩)]]) :=
  ⟨fun c s w h => look_9 c h, fun _ _ => by kernel_rfl, fun _ _ _ => by kernel_rfl, fun c s hs w h => claim_c hs (x := 1) (by omega) h, fun c s hs x h0 h1 w h => giveBack_c (x := 1) (by omega) x h0 h1 h⟩
theorem reg_at (off : Int) (h : regAt off ≠ 0) : ∃ kl ks aL aS, Reg off (regAt off) kl ks aL aS := by
  by_cases h1 : off = 4
  · subst h1; exact ⟨_, _, _, _, reg_1⟩
  by_cases h2 : off = 8
  · subst h2; exact ⟨_, _, _, _, reg_2⟩
  by_cases h3 : off = 4096
  · subst h3; exact ⟨_, _, _, _, reg_3⟩
  by_cases h4 : off = 8192
  · subst h4; exact ⟨_, _, _, _, reg_4⟩
  by_cases h5 : off = 8320
  · subst h5; exact ⟨_, _, _, _, reg_5⟩
  by_cases h6 : off = 2097152
  · subst h6; exact ⟨_, _, _, _, reg_6⟩
  by_cases h7 : off = 2101248
  · subst h7; exact ⟨_, _, _, _, reg_7⟩
  by_cases h8 : off = 2097156
  · subst h8; exact ⟨_, _, _, _, reg_8⟩
  by_cases h9 : off = 2101252
  · subst h9; exact ⟨_, _, _, _, reg_9⟩
  exfalso
  apply h
  unfold regAt
  rw [if_neg h1, if_neg h2, if_neg h3, if_neg h4, if_neg h5, if_neg h6, if_neg h7, if_neg h8, if_neg h9]
theorem no_at {off : Int} (h : regAt off = 0) : off ≠ 4 ∧ off ≠ 8 ∧ off ≠ 4096 ∧ off ≠ 8192 ∧ off ≠ 8320 ∧ off ≠ 2097152 ∧ off ≠ 2101248 ∧ off ≠ 2097156 ∧ off ≠ 2101252 := by
  unfold regAt at h
  repeat' split at h
  all_goals omega

/-- What find answers where there is none. -/
def noReg : Value := .tuple #[.pointer none, .agg #[.nilFunc, .nilFunc], .bool false]
set_option maxHeartbeats 1000000 in
theorem find_bad {v : Value} {s : PS} (off size : Int) (hbad : plChk s = false ∨ size ≠ 4) {W w : World} (hb : Pl w v s) (g : Grew W w) :
    Calls Tryz.prog 77 #[v, .int .u64 off, .int .i64 size] w fun e w' => e = .returned noReg ∧ Grew W w' := by
  have hC := fun (w1 : World) (g1 : Grew w w1) => plCheck_c (Grew.refl w1) (hb.grew g1)
  have HC := Lib.hid hC
  have HV := Lib.hid hb
  obtain ⟨vP, vE, vT, rfl, h1, h2, h3⟩ := hb.shape
  obtain ⟨aP, cP, rfl, _, _⟩ := h1.shape
  obtain ⟨aE, cE, rfl, _, _⟩ := h2.shape
  obtain ⟨aT, cT, rfl, _, _⟩ := h3.shape
  clear hC h1 h2 h3 hb
  have hgs := g.size
  unfold noReg
  cases hck : plChk s
  all_goals
    rw [hck] at HC hbad
    try (have hsz : (size != 4) = true := by simpa using hbad)
    clear hbad
    go_enter Tryz.func77, Tryz.ntmps77
    go_upto_region 1 with fail
    have k0 : Blk ((w.alloc (.cells #[.slice aP s.pr.length cP, .int .i64 s.n, .int .i64 s.k, .slice aE s.en.length cE, .slice aT s.th.length cT] 30)).alloc (.cells #[.nilFunc, .nilFunc] 126)) w.heap.size #[.slice aP s.pr.length cP, .int .i64 s.n, .int .i64 s.k, .slice aE s.en.length cE, .slice aT s.th.length cT] 30 := (Blk.new _ _ _ _ rfl).alloc _
    have r0 : Blk ((w.alloc (.cells #[.slice aP s.pr.length cP, .int .i64 s.n, .int .i64 s.k, .slice aE s.en.length cE, .slice aT s.th.length cT] 30)).alloc (.cells #[.nilFunc, .nilFunc] 126)) (w.heap.size + 1) #[.nilFunc, .nilFunc] 126 := Blk.new _ _ _ _ (by simp)
    have g0 : Grew w ((w.alloc (.cells #[.slice aP s.pr.length cP, .int .i64 s.n, .int .i64 s.k, .slice aE s.en.length cE, .slice aT s.th.length cT] 30)).alloc (.cells #[.nilFunc, .nilFunc] 126)) := ((Grew.refl w).alloc _).alloc _
    generalize ((w.alloc (.cells #[.slice aP s.pr.length cP, .int .i64 s.n, .int .i64 s.k, .slice aE s.en.length cE, .slice aT s.th.length cT] 30)).alloc (.cells #[.nilFunc, .nilFunc] 126)) = w0 at *
    have y0 := k0.cell 0
    have y1 := k0.cell 1
    have y2 := k0.cell 2
    have y3 := k0.cell 3
    have y4 := k0.cell 4
    go_wp2_with fail
    refine (HC.out _ g0).mono ?_
    rintro e w1 ⟨rfl, g1⟩
    clear y0 y1 y2 y3 y4
    have r1 := r0.grew g1
    have c0 := r1.cell 0
    have c1 := r1.cell 1
    have f0 := r1.free 0
    have f1 := r1.free 1
    have G := (g.trans g0).trans g1
    have hE : W.heap.size ≤ w.heap.size + 1 := by omega
    generalize w.heap.size + 1 = E at *
    clear r0 k0 g0 g1 hgs g HC HV
    go_wp2_with fail
    have ky := (r1.set (o := 0) .nilFunc).set (o := 1) .nilFunc
    have gy := (G.setCell (b := E) (o := 0) hE .nilFunc).setCell (b := E) (o := 1) hE .nilFunc
    generalize (w1.setCell ⟨E, 0, none⟩ .nilFunc).setCell ⟨E, 1, none⟩ .nilFunc = wy at *
    have z0 := ky.cell 0
    have z1 := ky.cell 1
    exact bodyPost_ret (v := .tuple #[.pointer none, .agg #[.nilFunc, .nilFunc], .bool false]) (by simp [results, Tryz.results77, go_sem, z0, z1]) rfl ⟨rfl, gy⟩

set_option maxHeartbeats 1000000 in
theorem plFind_yes {off r : Int} {kl ks : FuncId} {aL aS : Nat → Array Value} (hR : Reg off r kl ks aL aS) {v : Value} {s : VS} (hs : s.Ok) {W w : World} (hb : Pl w v s.ps) (g : Grew W w) :
    Calls Tryz.prog 77 #[v, .int .u64 off, .int .i64 4] w fun e w' => ∃ c, e = .returned (.tuple #[.pointer (some ⟨c, 0, none⟩), .agg #[.func (.func kl) (aL c) #[], .func (.func ks) (aS c) #[]], .bool true]) ∧ w.heap.size ≤ c ∧ Hid (Blk w' c s.ctl 87) ∧ Grew W w' := by
  have hC := fun (w1 : World) (g1 : Grew w w1) => plCheck_c (Grew.refl w1) (hb.grew g1)
  rw [chk_mk hs] at hC
  have hT := fun (w1 : World) (g1 : Grew w w1) => plTaken_c (hb.grew g1) (Grew.refl w1)
  have hL := fun (c : Nat) (w : World) (h : Blk w c s.ctl 87) => (hR.look) c s w h
  have HC := Lib.hid hC
  have HT := Lib.hid hT
  have HL := Lib.hid hL
  obtain ⟨vP, vE, vT, rfl, h1, h2, h3⟩ := hb.shape
  obtain ⟨aP, cP, rfl, _, _⟩ := h1.shape
  obtain ⟨aE, cE, rfl, _, _⟩ := h2.shape
  obtain ⟨aT, cT, rfl, _, _⟩ := h3.shape
  clear hC hT hL h1 h2 h3 hb hs hR
  have hgs := g.size
  obtain ⟨cs, hcs⟩ : ∃ cs, cs = s.ctl := ⟨_, rfl⟩
  rw [← hcs] at HT HL ⊢
  clear hcs
  obtain ⟨p1, p2, n, k, e0, t0, e1, t1⟩ := s
  simp only [List.length_cons, List.length_nil, Nat.zero_add, Nat.reduceAdd] at HC HT ⊢
  go_enter Tryz.func77, Tryz.ntmps77
  go_upto_region 1 with fail
  have k0 : Blk ((w.alloc (.cells #[.slice aP 3 cP, .int .i64 n, .int .i64 k, .slice aE 2 cE, .slice aT 2 cT] 30)).alloc (.cells #[.nilFunc, .nilFunc] 126)) w.heap.size #[.slice aP 3 cP, .int .i64 n, .int .i64 k, .slice aE 2 cE, .slice aT 2 cT] 30 := (Blk.new _ _ _ _ rfl).alloc _
  have r0 : Blk ((w.alloc (.cells #[.slice aP 3 cP, .int .i64 n, .int .i64 k, .slice aE 2 cE, .slice aT 2 cT] 30)).alloc (.cells #[.nilFunc, .nilFunc] 126)) (w.heap.size + 1) #[.nilFunc, .nilFunc] 126 := Blk.new _ _ _ _ (by simp)
  have g0 : Grew w ((w.alloc (.cells #[.slice aP 3 cP, .int .i64 n, .int .i64 k, .slice aE 2 cE, .slice aT 2 cT] 30)).alloc (.cells #[.nilFunc, .nilFunc] 126)) := ((Grew.refl w).alloc _).alloc _
  have s0 := r0.lt
  generalize ((w.alloc (.cells #[.slice aP 3 cP, .int .i64 n, .int .i64 k, .slice aE 2 cE, .slice aT 2 cT] 30)).alloc (.cells #[.nilFunc, .nilFunc] 126)) = w0 at *
  have y0 := k0.cell 0
  have y1 := k0.cell 1
  have y2 := k0.cell 2
  have y3 := k0.cell 3
  have y4 := k0.cell 4
  go_wp2_with fail
  refine (HC.out _ g0).mono ?_
  rintro e w1 ⟨rfl, g1⟩
  clear y0 y1 y2 y3 y4
  have k1 := k0.grew g1
  have y0 := k1.cell 0
  have y1 := k1.cell 1
  have y2 := k1.cell 2
  have y3 := k1.cell 3
  have y4 := k1.cell 4
  have G1 := g0.trans g1
  go_wp2_with fail
  refine (HT.out _ G1).mono ?_
  rintro e w2 ⟨c, rfl, hc, HK, g2⟩
  clear y0 y1 y2 y3 y4 HC HT
  have G2 := G1.trans g2
  have r2 := r0.grew (g1.trans g2)
  have hs1 := g1.size
  go_wp2_with fail
  refine (HL.out c w2 HK.out).mono ?_
  rintro e w3 ⟨rfl, g3⟩
  have G3 := G2.trans g3
  have r3 := r2.grew g3
  have kc3 := HK.out.grew g3
  clear HL HK r2 r0 k0 k1 g1 g2
  go_upto_region 5 with fail
  have g4 := (Grew.refl w3).alloc (.cells #[.func (.func kl) (aL c) #[], .func (.func ks) (aS c) #[]] 126)
  have k4 : Blk (w3.alloc (.cells #[.func (.func kl) (aL c) #[], .func (.func ks) (aS c) #[]] 126)) w3.heap.size #[.func (.func kl) (aL c) #[], .func (.func ks) (aS c) #[]] 126 := Blk.new _ _ _ _ rfl
  have G4 := G3.trans g4
  have r4 := r3.grew g4
  have hEl := r3.lt
  have kc4 := kc3.grew g4
  clear g4 r3 kc3
  generalize w3.alloc (.cells #[.func (.func kl) (aL c) #[], .func (.func ks) (aS c) #[]] 126) = w4 at *
  generalize w3.heap.size = Y at *
  have hE : w.heap.size ≤ w.heap.size + 1 := by omega
  have hcE : c ≠ w.heap.size + 1 := by omega
  have hcw : w.heap.size ≤ c := by omega
  generalize w.heap.size + 1 = E at *
  have c0 := k4.cell 0
  have c1 := k4.cell 1
  have d0 := r4.cell 0
  have d1 := r4.cell 1
  have f0 := r4.free 0
  have f1 := r4.free 1
  have hEY : E ≠ Y := by omega
  have HZ := Lib.hid (And.intro r4 (And.intro kc4 (And.intro G4 (And.intro hcE (And.intro hE hcw)))))
  clear r4 kc4 G4 hcE hE hcw k4
  refine wp_region_held_drew (S := fun w' => w'.cell? ⟨Y, 0, none⟩ = some (.func (.func kl) (aL c) #[]) ∧ w'.cell? ⟨Y, 1, none⟩ = some (.func (.func ks) (aS c) #[])) (by kernel_rfl) (by first | assumption | go_keep) (fun hHeld => ?_)
  first
    | (refine wpAnyH_take (i := 0) (v := ?_) rfl (by kernel_rfl) (by kernel_rfl) (by kernel_rfl) (fun _ _ _ h => h) (Or.inl ⟨by rfl, ?_⟩) (by assumption) ?_; rotate_left; (intro wq hSw; (try dsimp only at hSw); go_simp; try with_reducible rfl))
    | (refine wpAnyH_take (i := 0) (v := undef) rfl (by kernel_rfl) (by kernel_rfl) (by kernel_rfl) (fun _ _ _ h => h) (Or.inr ⟨by rfl, rfl⟩) (by assumption) ?_)
  try simp only [List.getElem_toArray, List.getElem_cons_succ, List.getElem_cons_zero, Act.put, List.setIfInBounds_toArray, List.set_cons_zero, List.set_cons_succ]
  first
    | (refine wpAnyH_take (i := 1) (v := ?_) rfl (by kernel_rfl) (by kernel_rfl) (by kernel_rfl) (fun _ _ _ h => h) (Or.inl ⟨by rfl, ?_⟩) (by assumption) ?_; rotate_left; (intro wq hSw; (try dsimp only at hSw); go_simp; try with_reducible rfl))
    | (refine wpAnyH_take (i := 1) (v := undef) rfl (by kernel_rfl) (by kernel_rfl) (by kernel_rfl) (fun _ _ _ h => h) (Or.inr ⟨by rfl, rfl⟩) (by assumption) ?_)
  try simp only [List.getElem_toArray, List.getElem_cons_succ, List.getElem_cons_zero, Act.put, List.setIfInBounds_toArray, List.set_cons_zero, List.set_cons_succ]
  first
    | (refine wpAnyH_take (i := 2) (v := ?_) rfl (by kernel_rfl) (by kernel_rfl) (by kernel_rfl) (fun _ _ _ h => h) (Or.inl ⟨by rfl, ?_⟩) (by assumption) ?_; rotate_left; (intro wq hSw; (try dsimp only at hSw); go_simp; try with_reducible rfl))
    | (refine wpAnyH_take (i := 2) (v := undef) rfl (by kernel_rfl) (by kernel_rfl) (by kernel_rfl) (fun _ _ _ h => h) (Or.inr ⟨by rfl, rfl⟩) (by assumption) ?_)
  try simp only [List.getElem_toArray, List.getElem_cons_succ, List.getElem_cons_zero, Act.put, List.setIfInBounds_toArray, List.set_cons_zero, List.set_cons_succ]
  first
    | (refine wpAnyH_take (i := 3) (v := ?_) rfl (by kernel_rfl) (by kernel_rfl) (by kernel_rfl) (fun _ _ _ h => h) (Or.inl ⟨by rfl, ?_⟩) (by assumption) ?_; rotate_left; (intro wq hSw; (try dsimp only at hSw); go_simp; try with_reducible rfl))
    | (refine wpAnyH_take (i := 3) (v := undef) rfl (by kernel_rfl) (by kernel_rfl) (by kernel_rfl) (fun _ _ _ h => h) (Or.inr ⟨by rfl, rfl⟩) (by assumption) ?_)
  try simp only [List.getElem_toArray, List.getElem_cons_succ, List.getElem_cons_zero, Act.put, List.setIfInBounds_toArray, List.set_cons_zero, List.set_cons_succ]
  refine wpAnyH_ready (rs := [4]) (by kernel_rfl) (by simp) ?_
  refine AllReadyH.cons rfl (fun K hK => ?_) AllReadyH.nil
  go_simp
  refine hK.out _ _ (by first | assumption | go_keep) (fun hHeld => ?_)
  clear hK K
  try simp only [List.getElem_toArray, List.getElem_cons_succ, List.getElem_cons_zero, Act.put, List.setIfInBounds_toArray, List.set_cons_zero, List.set_cons_succ]
  first
    | (refine wpAnyH_take (i := 5) (v := ?_) rfl (by kernel_rfl) (by kernel_rfl) (by kernel_rfl) (fun _ _ _ h => h) (Or.inl ⟨by rfl, ?_⟩) (by assumption) ?_; rotate_left; (intro wq hSw; (try dsimp only at hSw); go_simp; try with_reducible rfl))
    | (refine wpAnyH_take (i := 5) (v := undef) rfl (by kernel_rfl) (by kernel_rfl) (by kernel_rfl) (fun _ _ _ h => h) (Or.inr ⟨by rfl, rfl⟩) (by assumption) ?_)
  try simp only [List.getElem_toArray, List.getElem_cons_succ, List.getElem_cons_zero, Act.put, List.setIfInBounds_toArray, List.set_cons_zero, List.set_cons_succ]
  refine wpAnyH_done (by kernel_rfl) ?_ _
  try simp only [List.getElem_toArray, List.getElem_cons_succ, List.getElem_cons_zero, Act.put, List.setIfInBounds_toArray, List.set_cons_zero, List.set_cons_succ]
  obtain ⟨r5, kc5, G5, hcE, hE, hcw⟩ := HZ.out
  clear HZ hHeld c0 c1 d0 d1 f0 f1
  have ky := ((r5.set (o := 0) (.func (.func kl) (aL c) #[])).set (o := 1) (.func (.func ks) (aS c) #[])).drew
  have kcy := ((kc5.other hcE (o := 0) (.func (.func kl) (aL c) #[])).other hcE (o := 1) (.func (.func ks) (aS c) #[])).drew
  have gy := ((G5.setCell (b := E) (o := 0) hE (.func (.func kl) (aL c) #[])).setCell (b := E) (o := 1) hE (.func (.func ks) (aS c) #[])).drew1
  go_wp2_with fail
  generalize ((w4.setCell ⟨E, 0, none⟩ (.func (.func kl) (aL c) #[])).setCell ⟨E, 1, none⟩ (.func (.func ks) (aS c) #[])).drew = wy at *
  have z0 := ky.cell 0
  have z1 := ky.cell 1
  exact bodyPost_ret (v := .tuple #[.pointer (some ⟨c, 0, none⟩), .agg #[.func (.func kl) (aL c) #[], .func (.func ks) (aS c) #[]], .bool true]) (by simp [results, Tryz.results77, go_sem, z0, z1]) rfl ⟨c, rfl, hcw, Lib.hid kcy, g.trans gy⟩

set_option maxHeartbeats 1000000 in
theorem plFind_no {off : Int} (hR : regAt off = 0) {v : Value} {s : VS} (hs : s.Ok) {W w : World} (hb : Pl w v s.ps) (g : Grew W w) :
    Calls Tryz.prog 77 #[v, .int .u64 off, .int .i64 4] w fun e w' => ∃ c, e = .returned (.tuple #[.pointer (some ⟨c, 0, none⟩), .agg #[.nilFunc, .nilFunc], .bool false]) ∧ w.heap.size ≤ c ∧ Hid (Blk w' c s.ctl 87) ∧ Grew W w' := by
  have hC := fun (w1 : World) (g1 : Grew w w1) => plCheck_c (Grew.refl w1) (hb.grew g1)
  rw [chk_mk hs] at hC
  have hT := fun (w1 : World) (g1 : Grew w w1) => plTaken_c (hb.grew g1) (Grew.refl w1)
  have hL := fun (c : Nat) (w : World) (h : Blk w c s.ctl 87) => (fun c s w h => (look_no c off (no_at hR).1 (no_at hR).2.1 (no_at hR).2.2.1 (no_at hR).2.2.2.1 (no_at hR).2.2.2.2.1 (no_at hR).2.2.2.2.2.1 (no_at hR).2.2.2.2.2.2.1 (no_at hR).2.2.2.2.2.2.2.1 (no_at hR).2.2.2.2.2.2.2.2 h)) c s w h
  have HC := Lib.hid hC
  have HT := Lib.hid hT
  have HL := Lib.hid hL
  obtain ⟨vP, vE, vT, rfl, h1, h2, h3⟩ := hb.shape
  obtain ⟨aP, cP, rfl, _, _⟩ := h1.shape
  obtain ⟨aE, cE, rfl, _, _⟩ := h2.shape
  obtain ⟨aT, cT, rfl, _, _⟩ := h3.shape
  clear hC hT hL h1 h2 h3 hb hs hR
  have hgs := g.size
  obtain ⟨cs, hcs⟩ : ∃ cs, cs = s.ctl := ⟨_, rfl⟩
  rw [← hcs] at HT HL ⊢
  clear hcs
  obtain ⟨p1, p2, n, k, e0, t0, e1, t1⟩ := s
  simp only [List.length_cons, List.length_nil, Nat.zero_add, Nat.reduceAdd] at HC HT ⊢
  go_enter Tryz.func77, Tryz.ntmps77
  go_upto_region 1 with fail
  have k0 : Blk ((w.alloc (.cells #[.slice aP 3 cP, .int .i64 n, .int .i64 k, .slice aE 2 cE, .slice aT 2 cT] 30)).alloc (.cells #[.nilFunc, .nilFunc] 126)) w.heap.size #[.slice aP 3 cP, .int .i64 n, .int .i64 k, .slice aE 2 cE, .slice aT 2 cT] 30 := (Blk.new _ _ _ _ rfl).alloc _
  have r0 : Blk ((w.alloc (.cells #[.slice aP 3 cP, .int .i64 n, .int .i64 k, .slice aE 2 cE, .slice aT 2 cT] 30)).alloc (.cells #[.nilFunc, .nilFunc] 126)) (w.heap.size + 1) #[.nilFunc, .nilFunc] 126 := Blk.new _ _ _ _ (by simp)
  have g0 : Grew w ((w.alloc (.cells #[.slice aP 3 cP, .int .i64 n, .int .i64 k, .slice aE 2 cE, .slice aT 2 cT] 30)).alloc (.cells #[.nilFunc, .nilFunc] 126)) := ((Grew.refl w).alloc _).alloc _
  have s0 := r0.lt
  generalize ((w.alloc (.cells #[.slice aP 3 cP, .int .i64 n, .int .i64 k, .slice aE 2 cE, .slice aT 2 cT] 30)).alloc (.cells #[.nilFunc, .nilFunc] 126)) = w0 at *
  have y0 := k0.cell 0
  have y1 := k0.cell 1
  have y2 := k0.cell 2
  have y3 := k0.cell 3
  have y4 := k0.cell 4
  go_wp2_with fail
  refine (HC.out _ g0).mono ?_
  rintro e w1 ⟨rfl, g1⟩
  clear y0 y1 y2 y3 y4
  have k1 := k0.grew g1
  have y0 := k1.cell 0
  have y1 := k1.cell 1
  have y2 := k1.cell 2
  have y3 := k1.cell 3
  have y4 := k1.cell 4
  have G1 := g0.trans g1
  go_wp2_with fail
  refine (HT.out _ G1).mono ?_
  rintro e w2 ⟨c, rfl, hc, HK, g2⟩
  clear y0 y1 y2 y3 y4 HC HT
  have G2 := G1.trans g2
  have r2 := r0.grew (g1.trans g2)
  have hs1 := g1.size
  go_wp2_with fail
  refine (HL.out c w2 HK.out).mono ?_
  rintro e w3 ⟨rfl, g3⟩
  have G3 := G2.trans g3
  have r3 := r2.grew g3
  have kc3 := HK.out.grew g3
  clear HL HK r2 r0 k0 k1 g1 g2
  go_upto_region 5 with fail
  have g4 := (Grew.refl w3).alloc (.cells #[.nilFunc, .nilFunc] 126)
  have k4 : Blk (w3.alloc (.cells #[.nilFunc, .nilFunc] 126)) w3.heap.size #[.nilFunc, .nilFunc] 126 := Blk.new _ _ _ _ rfl
  have G4 := G3.trans g4
  have r4 := r3.grew g4
  have hEl := r3.lt
  have kc4 := kc3.grew g4
  clear g4 r3 kc3
  generalize w3.alloc (.cells #[.nilFunc, .nilFunc] 126) = w4 at *
  generalize w3.heap.size = Y at *
  have hE : w.heap.size ≤ w.heap.size + 1 := by omega
  have hcE : c ≠ w.heap.size + 1 := by omega
  have hcw : w.heap.size ≤ c := by omega
  generalize w.heap.size + 1 = E at *
  have c0 := k4.cell 0
  have c1 := k4.cell 1
  have d0 := r4.cell 0
  have d1 := r4.cell 1
  have f0 := r4.free 0
  have f1 := r4.free 1
  have hEY : E ≠ Y := by omega
  have HZ := Lib.hid (And.intro r4 (And.intro kc4 (And.intro G4 (And.intro hcE (And.intro hE hcw)))))
  clear r4 kc4 G4 hcE hE hcw k4
  refine wp_region_held_drew (S := fun w' => w'.cell? ⟨Y, 0, none⟩ = some (.nilFunc) ∧ w'.cell? ⟨Y, 1, none⟩ = some (.nilFunc)) (by kernel_rfl) (by first | assumption | go_keep) (fun hHeld => ?_)
  first
    | (refine wpAnyH_take (i := 0) (v := ?_) rfl (by kernel_rfl) (by kernel_rfl) (by kernel_rfl) (fun _ _ _ h => h) (Or.inl ⟨by rfl, ?_⟩) (by assumption) ?_; rotate_left; (intro wq hSw; (try dsimp only at hSw); go_simp; try with_reducible rfl))
    | (refine wpAnyH_take (i := 0) (v := undef) rfl (by kernel_rfl) (by kernel_rfl) (by kernel_rfl) (fun _ _ _ h => h) (Or.inr ⟨by rfl, rfl⟩) (by assumption) ?_)
  try simp only [List.getElem_toArray, List.getElem_cons_succ, List.getElem_cons_zero, Act.put, List.setIfInBounds_toArray, List.set_cons_zero, List.set_cons_succ]
  first
    | (refine wpAnyH_take (i := 1) (v := ?_) rfl (by kernel_rfl) (by kernel_rfl) (by kernel_rfl) (fun _ _ _ h => h) (Or.inl ⟨by rfl, ?_⟩) (by assumption) ?_; rotate_left; (intro wq hSw; (try dsimp only at hSw); go_simp; try with_reducible rfl))
    | (refine wpAnyH_take (i := 1) (v := undef) rfl (by kernel_rfl) (by kernel_rfl) (by kernel_rfl) (fun _ _ _ h => h) (Or.inr ⟨by rfl, rfl⟩) (by assumption) ?_)
  try simp only [List.getElem_toArray, List.getElem_cons_succ, List.getElem_cons_zero, Act.put, List.setIfInBounds_toArray, List.set_cons_zero, List.set_cons_succ]
  first
    | (refine wpAnyH_take (i := 2) (v := ?_) rfl (by kernel_rfl) (by kernel_rfl) (by kernel_rfl) (fun _ _ _ h => h) (Or.inl ⟨by rfl, ?_⟩) (by assumption) ?_; rotate_left; (intro wq hSw; (try dsimp only at hSw); go_simp; try with_reducible rfl))
    | (refine wpAnyH_take (i := 2) (v := undef) rfl (by kernel_rfl) (by kernel_rfl) (by kernel_rfl) (fun _ _ _ h => h) (Or.inr ⟨by rfl, rfl⟩) (by assumption) ?_)
  try simp only [List.getElem_toArray, List.getElem_cons_succ, List.getElem_cons_zero, Act.put, List.setIfInBounds_toArray, List.set_cons_zero, List.set_cons_succ]
  first
    | (refine wpAnyH_take (i := 3) (v := ?_) rfl (by kernel_rfl) (by kernel_rfl) (by kernel_rfl) (fun _ _ _ h => h) (Or.inl ⟨by rfl, ?_⟩) (by assumption) ?_; rotate_left; (intro wq hSw; (try dsimp only at hSw); go_simp; try with_reducible rfl))
    | (refine wpAnyH_take (i := 3) (v := undef) rfl (by kernel_rfl) (by kernel_rfl) (by kernel_rfl) (fun _ _ _ h => h) (Or.inr ⟨by rfl, rfl⟩) (by assumption) ?_)
  try simp only [List.getElem_toArray, List.getElem_cons_succ, List.getElem_cons_zero, Act.put, List.setIfInBounds_toArray, List.set_cons_zero, List.set_cons_succ]
  refine wpAnyH_ready (rs := [4]) (by kernel_rfl) (by simp) ?_
  refine AllReadyH.cons rfl (fun K hK => ?_) AllReadyH.nil
  go_simp
  refine hK.out _ _ (by first | assumption | go_keep) (fun hHeld => ?_)
  clear hK K
  try simp only [List.getElem_toArray, List.getElem_cons_succ, List.getElem_cons_zero, Act.put, List.setIfInBounds_toArray, List.set_cons_zero, List.set_cons_succ]
  first
    | (refine wpAnyH_take (i := 5) (v := ?_) rfl (by kernel_rfl) (by kernel_rfl) (by kernel_rfl) (fun _ _ _ h => h) (Or.inl ⟨by rfl, ?_⟩) (by assumption) ?_; rotate_left; (intro wq hSw; (try dsimp only at hSw); go_simp; try with_reducible rfl))
    | (refine wpAnyH_take (i := 5) (v := undef) rfl (by kernel_rfl) (by kernel_rfl) (by kernel_rfl) (fun _ _ _ h => h) (Or.inr ⟨by rfl, rfl⟩) (by assumption) ?_)
  try simp only [List.getElem_toArray, List.getElem_cons_succ, List.getElem_cons_zero, Act.put, List.setIfInBounds_toArray, List.set_cons_zero, List.set_cons_succ]
  refine wpAnyH_done (by kernel_rfl) ?_ _
  try simp only [List.getElem_toArray, List.getElem_cons_succ, List.getElem_cons_zero, Act.put, List.setIfInBounds_toArray, List.set_cons_zero, List.set_cons_succ]
  obtain ⟨r5, kc5, G5, hcE, hE, hcw⟩ := HZ.out
  clear HZ hHeld c0 c1 d0 d1 f0 f1
  have ky := ((r5.set (o := 0) (.nilFunc)).set (o := 1) (.nilFunc)).drew
  have kcy := ((kc5.other hcE (o := 0) (.nilFunc)).other hcE (o := 1) (.nilFunc)).drew
  have gy := ((G5.setCell (b := E) (o := 0) hE (.nilFunc)).setCell (b := E) (o := 1) hE (.nilFunc)).drew1
  go_wp2_with fail
  generalize ((w4.setCell ⟨E, 0, none⟩ (.nilFunc)).setCell ⟨E, 1, none⟩ (.nilFunc)).drew = wy at *
  have z0 := ky.cell 0
  have z1 := ky.cell 1
  exact bodyPost_ret (v := .tuple #[.pointer (some ⟨c, 0, none⟩), .agg #[.nilFunc, .nilFunc], .bool false]) (by simp [results, Tryz.results77, go_sem, z0, z1]) rfl ⟨c, rfl, hcw, Lib.hid kcy, g.trans gy⟩
end Go.Proofs.YtgcfmijkggpemaaGreat
