/-
  The document's own questions for names: Ask and Fail.
-/
import Derived.Test.YtnafdgpkofffaaaGreatDoorDnA
set_option maxRecDepth 4000
set_option linter.unusedVariables false
set_option linter.unusedSimpArgs false
namespace Go.Proofs.YtnafdgpkofffaaaGreatDoor
open Go.RowKit

def askOk (id : Int) (xs : List Int) (kind : Int) : Bool := (lblV xs).2 && (decide (0 ≤ id) && (decide (id ≤ 65535) && (decide (0 ≤ kind) && decide (kind ≤ 65535))))
def askW (id : Int) (xs : List Int) (kind : Int) : List Int := putL id 2 true ++ [1, 0, 0, 1, 0, 0, 0, 0, 0, 0] ++ (lblV xs).1 ++ putL kind 2 true ++ [0, 1]
def askV (id : Int) (xs : List Int) (kind : Int) : List Int := if askOk id xs kind = true then askW id xs kind else []
def askE (id : Int) (xs : List Int) (kind : Int) : Int := if askOk id xs kind = true then 0 else 2
def failOk (b : List Int) : Bool := (qsV b).2.2.2 == 0 && qyV b
def failW (b : List Int) (code : Int) : List Int := [b.getD 0 0, b.getD 1 0, 129, 128 + code % 16, 0, 1] ++ List.replicate 6 0 ++ cutL b 12 (qsV b).2.2.1.toNat
def failV (b : List Int) (code : Int) : List Int := if failOk b = true then failW b code else []
theorem lblV_some {xs : List Int} (h : (lblV xs).2 = true) : ∃ o, lblO xs = some o ∧ (lblV xs).1 = o ++ [0] := by
  unfold lblV at h ⊢
  cases e : lblO xs with
  | none => rw [e] at h; simp at h
  | some o => exact ⟨o, rfl, rfl⟩
theorem labels_c {xs : List Int} (hxo : AreBytes xs) (hl : xs.length ≤ 70000) (w : World) :
    Calls Tryz.prog 29 #[.string (strOfNums xs)] w fun e w' => ∃ u, e = .returned (.tuple #[u, .bool (lblV xs).2]) ∧ ((lblV xs).2 = true → Buf w' u (lblV xs).1) ∧ Grew w w' := by
  refine (labels_in hxo hl w _ rfl _ rfl).mono ?_
  rintro e w1 ⟨u, he, hb, g⟩
  refine ⟨u, he, fun h => ?_, g⟩
  obtain ⟨o, ho, hv⟩ := lblV_some h
  rw [hv]
  exact hb h o ho
theorem labsF_len : ∀ cur r o, labsF cur r = some o → o.length = cur.length + r.length + 1
  | cur, [], o, h => by
    rw [labsF_nil] at h
    split at h
    · simp only [Option.some.injEq] at h; subst h; simp
    · simp at h
  | cur, c :: r, o, h => by
    by_cases e : c = 46
    · subst e
      rw [labsF_dot] at h
      split at h
      · obtain ⟨x, hx, rfl⟩ := Option.map_eq_some_iff.1 h
        have := labsF_len [] r x hx
        simp only [List.length_cons, List.length_append, List.length_nil] at this ⊢
        omega
      · simp at h
    · rw [labsF_let e] at h
      split at h
      · have := labsF_len (cur ++ [c]) r o h
        simp only [List.length_cons, List.length_append, List.length_nil] at this ⊢
        omega
      · simp at h
theorem lblV_len {xs : List Int} (h : (lblV xs).2 = true) : (lblV xs).1.length ≤ 256 := by
  obtain ⟨o, ho, hv⟩ := lblV_some h
  have h2 : (lblV xs).2 = decide (o.length + 1 ≤ 255) := by unfold lblV; rw [ho]
  rw [h2] at h
  have := of_decide_eq_true h
  rw [hv, List.length_append, List.length_singleton]
  omega
theorem and15 (x : Int) : bits .and .i64 x 15 = x % 16 := by
  show IntKind.i64.wrap ((BitVec.ofInt 64 x &&& BitVec.ofInt 64 15).toNat : Int) = _
  rw [BitVec.toNat_and, show (BitVec.ofInt 64 15).toNat = 2 ^ 4 - 1 from rfl, Nat.and_two_pow_sub_one_eq_mod, BitVec.toNat_ofInt, IntKind.wrap_i64]
  omega
theorem ask_0 {xs : List Int} (id kind : Int) (hxo : AreBytes xs) (hl : xs.length ≤ 70000) (h0 : (lblV xs).2 = false) (w : World) :
    Calls Tryz.prog 8 #[.int .i64 id, .string (strOfNums xs), .int .i64 kind] w fun e w' => e = .returned (.tuple #[.slice none 0 0, .int .i64 2]) ∧ Grew w w' := by
  have HL := Lib.hid (labels_c hxo hl w)
  rw [h0] at HL
  clear h0 hxo hl
  go_enter Tryz.func8, Tryz.ntmps8
  go_wp2_with fail
  refine HL.out.mono ?_
  rintro e w1 ⟨u, rfl, hlb, g1⟩
  clear hlb
  go_wp2_with fail
  go_ret2
  exact ⟨rfl, g1⟩
theorem ask_1 {xs : List Int} (id kind : Int) (hxo : AreBytes xs) (hl : xs.length ≤ 70000) (h0 : (lblV xs).2 = true) (h1 : id < 0) (w : World) :
    Calls Tryz.prog 8 #[.int .i64 id, .string (strOfNums xs), .int .i64 kind] w fun e w' => e = .returned (.tuple #[.slice none 0 0, .int .i64 2]) ∧ Grew w w' := by
  have HL := Lib.hid (labels_c hxo hl w)
  rw [h0] at HL
  clear h0 hxo hl
  go_enter Tryz.func8, Tryz.ntmps8
  go_wp2_with fail
  refine HL.out.mono ?_
  rintro e w1 ⟨u, rfl, hlb, g1⟩
  clear hlb
  go_wp2_with fail
  go_ret2
  exact ⟨rfl, g1⟩
theorem ask_2 {xs : List Int} (id kind : Int) (hxo : AreBytes xs) (hl : xs.length ≤ 70000) (h0 : (lblV xs).2 = true) (h1 : ¬ id < 0) (h2 : 65535 < id) (w : World) :
    Calls Tryz.prog 8 #[.int .i64 id, .string (strOfNums xs), .int .i64 kind] w fun e w' => e = .returned (.tuple #[.slice none 0 0, .int .i64 2]) ∧ Grew w w' := by
  have HL := Lib.hid (labels_c hxo hl w)
  rw [h0] at HL
  clear h0 hxo hl
  go_enter Tryz.func8, Tryz.ntmps8
  go_wp2_with fail
  refine HL.out.mono ?_
  rintro e w1 ⟨u, rfl, hlb, g1⟩
  clear hlb
  go_wp2_with fail
  go_ret2
  exact ⟨rfl, g1⟩
theorem ask_3 {xs : List Int} (id kind : Int) (hxo : AreBytes xs) (hl : xs.length ≤ 70000) (h0 : (lblV xs).2 = true) (h1 : ¬ id < 0) (h2 : ¬ 65535 < id) (h3 : kind < 0) (w : World) :
    Calls Tryz.prog 8 #[.int .i64 id, .string (strOfNums xs), .int .i64 kind] w fun e w' => e = .returned (.tuple #[.slice none 0 0, .int .i64 2]) ∧ Grew w w' := by
  have HL := Lib.hid (labels_c hxo hl w)
  rw [h0] at HL
  clear h0 hxo hl
  go_enter Tryz.func8, Tryz.ntmps8
  go_wp2_with fail
  refine HL.out.mono ?_
  rintro e w1 ⟨u, rfl, hlb, g1⟩
  clear hlb
  go_wp2_with fail
  go_ret2
  exact ⟨rfl, g1⟩
theorem ask_4 {xs : List Int} (id kind : Int) (hxo : AreBytes xs) (hl : xs.length ≤ 70000) (h0 : (lblV xs).2 = true) (h1 : ¬ id < 0) (h2 : ¬ 65535 < id) (h3 : ¬ kind < 0) (h4 : 65535 < kind) (w : World) :
    Calls Tryz.prog 8 #[.int .i64 id, .string (strOfNums xs), .int .i64 kind] w fun e w' => e = .returned (.tuple #[.slice none 0 0, .int .i64 2]) ∧ Grew w w' := by
  have HL := Lib.hid (labels_c hxo hl w)
  rw [h0] at HL
  clear h0 hxo hl
  go_enter Tryz.func8, Tryz.ntmps8
  go_wp2_with fail
  refine HL.out.mono ?_
  rintro e w1 ⟨u, rfl, hlb, g1⟩
  clear hlb
  go_wp2_with fail
  go_ret2
  exact ⟨rfl, g1⟩
set_option maxHeartbeats 2000000 in
theorem ask_yes {xs : List Int} (id kind : Int) (hxo : AreBytes xs) (hl : xs.length ≤ 70000) (h0 : (lblV xs).2 = true) (h1 : ¬ id < 0) (h2 : ¬ 65535 < id) (h3 : ¬ kind < 0) (h4 : ¬ 65535 < kind) (w : World) :
    Calls Tryz.prog 8 #[.int .i64 id, .string (strOfNums xs), .int .i64 kind] w fun e w' => ∃ u, e = .returned (.tuple #[u, .int .i64 0]) ∧ Buf w' u (askW id xs kind) ∧ Grew w w' := by
  have HL := Lib.hid (labels_c hxo hl w)
  have HLL := Lib.hid (lblV_len h0)
  rw [h0] at HL
  clear h0 hxo hl
  have HW : Hid (∀ l, l = (lblV xs).1 → askW id xs kind = putL id 2 true ++ [1, 0, 0, 1, 0, 0, 0, 0, 0, 0] ++ l ++ putL kind 2 true ++ [0, 1]) := Lib.hid (fun l h => by rw [h]; rfl)
  have HOK10 := Lib.hid (show AreBytes [1, 0, 0, 1, 0, 0, 0, 0, 0, 0] from bytes_lit (by decide))
  have HOK2 := Lib.hid (show AreBytes [0, 1] from bytes_lit (by decide))
  go_enter Tryz.func8, Tryz.ntmps8
  go_wp2_with fail
  refine HL.out.mono ?_
  rintro e w1 ⟨u, rfl, hlb, g1⟩
  replace hlb := hlb trivial
  obtain ⟨l, hle⟩ : ∃ l, l = (lblV xs).1 := ⟨_, rfl⟩
  have HWL := Lib.hid (HW.out l hle)
  rw [← hle] at hlb HLL
  clear hle HW HL
  have HLB := Lib.hid hlb
  have HLO := Lib.hid hlb.ok
  clear hlb
  have HA1 := Lib.hid (show (putL id 2 true).length + [1, 0, 0, 1, 0, 0, 0, 0, 0, 0].length ≤ 140737488355328 by rw [putB_len]; decide)
  have HA2 := Lib.hid (show (putL id 2 true ++ [1, 0, 0, 1, 0, 0, 0, 0, 0, 0]).length + l.length ≤ 140737488355328 by have := HLL.out; rw [List.length_append, putB_len]; simp only [List.length_cons, List.length_nil]; omega)
  have HA3 := Lib.hid (show (putL id 2 true ++ [1, 0, 0, 1, 0, 0, 0, 0, 0, 0] ++ l).length + (putL kind 2 true).length ≤ 140737488355328 by have := HLL.out; rw [List.length_append, List.length_append, putB_len, putB_len]; simp only [List.length_cons, List.length_nil]; omega)
  have HA4 := Lib.hid (show (putL id 2 true ++ [1, 0, 0, 1, 0, 0, 0, 0, 0, 0] ++ l ++ putL kind 2 true).length + ([0, 1] : List Int).length ≤ 140737488355328 by have := HLL.out; rw [List.length_append, List.length_append, List.length_append, putB_len, putB_len]; simp only [List.length_cons, List.length_nil]; omega)
  go_wp2_with fail
  refine (refTwo21_c id w1).mono ?_
  rintro e w2 ⟨pa, ca, rfl, hra, -, g2⟩
  have RA := Lib.hid hra
  clear hra
  go_upto_region 5 with (refine wpList_append_b (W := w1) rfl (.tmp 35) (.tmp 36) rfl (g2.alloc _) (RA.out.alloc _) ((Row.lit w2 w2.heap.size (Nat.le_refl _) #[.int .u8 1, .int .u8 0, .int .u8 0, .int .u8 1, .int .u8 0, .int .u8 0, .int .u8 0, .int .u8 0, .int .u8 0, .int .u8 0] [1, 0, 0, 1, 0, 0, 0, 0, 0, 0] rfl (by unfold maxLen; simp) _ rfl 10 rfl).buf HOK10.out) (by rfl) (by rfl) HA1.out ?_; intro v3 w3 R3 g3 y3; clear y3)
  clear RA g2
  go_wp2_with (refine wpList_append_b (W := w1) rfl (.tmp 38) (.tmp 39) rfl g3 R3.out (HLB.out.grew g3) (by rfl) (by rfl) HA2.out ?_; intro v4 w4 R4 g4 y4; clear y4)
  refine (refTwo21_c kind w4).mono ?_
  rintro e w5 ⟨pk, ck, rfl, -, hbk, gk⟩
  have RK := Lib.hid (R4.out.grew gk)
  have HBK := Lib.hid hbk
  have G5 := g4.trans gk
  clear hbk R4 R3 g3 g4 gk
  go_wp2_with (first
    | (refine wpList_append_b (W := w1) rfl (.tmp 40) (.tmp 42) rfl G5 RK.out HBK.out (by rfl) (by rfl) HA3.out ?_; intro v6 w6 R6 g6 y6; clear y6)
    | (refine wpList_append_b (W := w1) rfl (.tmp 43) (.tmp 44) rfl (g6.alloc _) (R6.out.alloc _) ((Row.lit w6 w6.heap.size (Nat.le_refl _) #[.int .u8 0, .int .u8 1] [0, 1] rfl (by unfold maxLen; simp) _ rfl 2 rfl).buf HOK2.out) (by rfl) (by rfl) HA4.out ?_; intro v7 w7 R7 g7 y7; clear y7))
  go_ret2
  have hq := R7.out.buf (((((putB_ok _ _ _).app HOK10.out).app HLO.out).app (putB_ok _ _ _)).app HOK2.out)
  rw [← HWL.out] at hq
  exact ⟨_, rfl, hq, g1.trans g7⟩
theorem refAsk_c {xs : List Int} (id kind : Int) (hxo : AreBytes xs) (hl : xs.length ≤ 70000) (w : World) :
    Calls Tryz.prog 8 #[.int .i64 id, .string (strOfNums xs), .int .i64 kind] w fun e w' => ∃ u, e = .returned (.tuple #[u, .int .i64 (askE id xs kind)]) ∧ Buf w' u (askV id xs kind) ∧ Grew w w' := by
  have no : askOk id xs kind = false → (Calls Tryz.prog 8 #[.int .i64 id, .string (strOfNums xs), .int .i64 kind] w fun e w' => e = .returned (.tuple #[.slice none 0 0, .int .i64 2]) ∧ Grew w w') → Calls Tryz.prog 8 #[.int .i64 id, .string (strOfNums xs), .int .i64 kind] w fun e w' => ∃ u, e = .returned (.tuple #[u, .int .i64 (askE id xs kind)]) ∧ Buf w' u (askV id xs kind) ∧ Grew w w' := fun h hc => by
    unfold askE askV
    rw [h]
    exact hc.mono fun _ _ ⟨h1, h2⟩ => ⟨_, h1, Buf.nil _, h2⟩
  cases h0 : (lblV xs).2
  · exact no (by unfold askOk; rw [h0]; rfl) (ask_0 id kind hxo hl h0 w)
  · by_cases h1 : id < 0
    · exact no (by unfold askOk; rw [decide_eq_false (show ¬ 0 ≤ id by omega)]; simp) (ask_1 id kind hxo hl h0 h1 w)
    · by_cases h2 : 65535 < id
      · exact no (by unfold askOk; rw [decide_eq_false (show ¬ id ≤ 65535 by omega)]; simp) (ask_2 id kind hxo hl h0 h1 h2 w)
      · by_cases h3 : kind < 0
        · exact no (by unfold askOk; rw [decide_eq_false (show ¬ 0 ≤ kind by omega)]; simp) (ask_3 id kind hxo hl h0 h1 h2 h3 w)
        · by_cases h4 : 65535 < kind
          · exact no (by unfold askOk; rw [decide_eq_false (show ¬ kind ≤ 65535 by omega)]; simp) (ask_4 id kind hxo hl h0 h1 h2 h3 h4 w)
          · have hok : askOk id xs kind = true := by
              unfold askOk
              rw [h0, decide_eq_true (show 0 ≤ id by omega), decide_eq_true (show id ≤ 65535 by omega), decide_eq_true (show 0 ≤ kind by omega), decide_eq_true (show kind ≤ 65535 by omega)]
              rfl
            unfold askE askV
            rw [if_pos hok, if_pos hok]
            exact ask_yes id kind hxo hl h0 h1 h2 h3 h4 w
theorem fail_0 {v : Value} {xs : List Int} (code : Int) (hl : xs.length ≤ 140737488355328) (h0 : ((qsV xs).2.2.2 != 0) = true) {w : World} (hb : Buf w v xs) :
    Calls Tryz.prog 12 #[v, .int .i64 code] w fun e w' => e = .returned (.tuple #[.slice none 0 0, .bool false]) ∧ Grew w w' := by
  have HQ := Lib.hid (qs_c hl hb)
  clear hb hl
  generalize qsV xs = q at *
  go_enter Tryz.func12, Tryz.ntmps12
  go_wp2_with fail
  refine HQ.out.mono ?_
  rintro e w1 ⟨rfl, g1⟩
  go_wp2_with fail
  go_ret2
  exact ⟨rfl, g1⟩
theorem fail_1 {v : Value} {xs : List Int} (code : Int) (hl : xs.length ≤ 140737488355328) (h0 : ((qsV xs).2.2.2 != 0) = false) (hy : qyV xs = false) {w : World} (hb : Buf w v xs) :
    Calls Tryz.prog 12 #[v, .int .i64 code] w fun e w' => e = .returned (.tuple #[.slice none 0 0, .bool false]) ∧ Grew w w' := by
  have HQ := Lib.hid (qs_c hl hb)
  have HY := Lib.hid (fun w' (g : Grew w w') => refQuery_c (hb.grew g))
  rw [hy] at HY
  clear hb hl hy
  generalize qsV xs = q at *
  go_enter Tryz.func12, Tryz.ntmps12
  go_wp2_with fail
  refine HQ.out.mono ?_
  rintro e w1 ⟨rfl, g1⟩
  go_wp2_with fail
  refine (HY.out _ g1).mono ?_
  rintro e wx ⟨rfl, hx⟩
  obtain rfl := hx.symm
  go_wp2_with fail
  go_ret2
  exact ⟨rfl, g1⟩
set_option maxHeartbeats 2000000 in
theorem fail_yes {a : Option Addr} {n c : Nat} {xs : List Int} (code : Int) (hl : xs.length ≤ 140737488355328) (h12 : 12 ≤ xs.length) (k : Nat) (hk : (qsV xs).2.2.1 = (k : Int)) (hk1 : 12 ≤ k) (hk2 : k ≤ xs.length) (h0 : ((qsV xs).2.2.2 != 0) = false) (hy : qyV xs = true) {w : World} (hb : Buf w (.slice a n c) xs) :
    Calls Tryz.prog 12 #[.slice a n c, .int .i64 code] w fun e w' => ∃ u, e = .returned (.tuple #[u, .bool true]) ∧ Buf w' u (failW xs code) ∧ Grew w w' := by
  have HQ := Lib.hid (qs_c hl hb)
  have HY := Lib.hid (fun w' (g : Grew w w') => refQuery_c (hb.grew g))
  rw [hy] at HY
  rw [hk] at HQ
  have HW : Hid (failW xs code = [xs.getD 0 0, xs.getD 1 0, 129, 128 + code % 16, 0, 1] ++ List.replicate 6 0 ++ cutL xs 12 k) := Lib.hid (by unfold failW; rw [hk, Int.toNat_natCast])
  have hn := hb.lenEq.1
  obtain ⟨a', c', ea, _, ha⟩ := hb.shape
  obtain ⟨bk, off, rfl, hat⟩ := ha (by rintro rfl; simp at h12)
  simp only [Value.slice.injEq] at ea
  obtain ⟨rfl, -, -⟩ := ea
  have hz0 := hb.ok.getD 0
  have hz1 := hb.ok.getD 1
  obtain ⟨a5, c5, H5, z1, hrun, z3, z4⟩ := hb.run_cut (lo := 12) (hi := k) hk1 hk2
  have r5 : ∀ w', (Instr.sliceAt 22 (.slice (some ⟨bk, off, none⟩) n c) (some (.int .i64 12)) (some (.int .i64 k)) none).run Tryz.prog w' = .ok (.slice a5 (k - 12) c5) w' := hrun .i64 .i64
  have HB5 := Lib.hid H5
  have H5O := Lib.hid H5.ok
  have H5L := Lib.hid (show (cutL xs 12 k).length ≤ 140737488355316 by rw [cutL_length hk1 hk2]; omega)
  have HX00 := Lib.hid (fun w' (g : Grew w w') => show w'.cell? ⟨bk, off, none⟩ = some (.int .u8 (xs.getD 0 0)) by have := hat.grew g 0 (by omega); rwa [Nat.add_zero] at this)
  have HX10 := Lib.hid (fun w' (g : Grew w w') => hat.grew g 1 (by omega))
  have HK0 := Lib.hid (show (0 : Int) < (n : Nat) by omega)
  have HK1 := Lib.hid (show (1 : Int) < (n : Nat) by omega)
  have HK0n := Lib.hid (show 0 < n by omega)
  have HK1n := Lib.hid (show 1 < n by omega)
  have EWa := Lib.hid (and15 code)
  have EWb := Lib.hid (show IntKind.i64.wrap (128 + code % 16) = 128 + code % 16 from IntWalk.i64_in _ (by omega))
  have EWc := Lib.hid (show IntKind.u8.wrap (128 + code % 16) = 128 + code % 16 by rw [wrap_u8]; omega)
  have HOK6 := Lib.hid (show AreBytes [xs.getD 0 0, xs.getD 1 0, 129, 128 + code % 16, 0, 1] from fun q hq => by simp only [List.mem_cons, List.not_mem_nil, or_false] at hq; omega)
  clear hb ha hat hn z1 z3 z4 hrun H5 hy hk hk2 hl h12 hz0 hz1
  generalize cutL xs 12 k = ys at *
  generalize xs.getD 0 0 = y0 at *
  generalize xs.getD 1 0 = y1 at *
  generalize (qsV xs).2.2.2 = qe at *
  generalize (qsV xs).2.1 = qk at *
  generalize (qsV xs).1 = qt at *
  go_enter Tryz.func12, Tryz.ntmps12
  go_wp2_with fail
  refine HQ.out.mono ?_
  rintro e w1 ⟨rfl, g1⟩
  go_wp2_with fail
  refine (HY.out _ g1).mono ?_
  rintro e wx ⟨rfl, hx⟩
  obtain rfl := hx.symm
  go_upto_region 4 with fail
  have HX0 := Lib.hid (fun w' (g : Grew w1 w') => HX00.out w' (g1.trans g))
  have HX1 := Lib.hid (fun w' (g : Grew w1 w') => HX10.out w' (g1.trans g))
  replace HB5 := Lib.hid (HB5.out.grew g1)
  clear HX00 HX10 HQ HY
  have hst := (Grew.refl w1).drew1
  refine wp_region_held_drew (S := fun w' => Grew w1 w') (by kernel_rfl) (by exact hst) (fun hHeld => ?_)
  replace hHeld : Grew w1 w1.drew := hHeld
  generalize w1.drew = wq1 at *
  refine wpAnyH_take (i := 0) (v := ?_) rfl (by kernel_rfl) (by kernel_rfl) (by kernel_rfl) (fun _ _ _ h => h) (Or.inl ⟨by rfl, ?_⟩) hHeld ?_
  rotate_left
  · intro wq hSw
    replace hSw : Grew w1 wq := hSw
    go_simp
    try with_reducible rfl
  try simp only [List.getElem_toArray, List.getElem_cons_succ, List.getElem_cons_zero, Act.put, List.setIfInBounds_toArray, List.set_cons_zero, List.set_cons_succ]
  refine wpAnyH_take (i := 1) (v := ?_) rfl (by kernel_rfl) (by kernel_rfl) (by kernel_rfl) (fun _ _ _ h => h) (Or.inl ⟨by rfl, ?_⟩) hHeld ?_
  rotate_left
  · intro wq hSw
    replace hSw : Grew w1 wq := hSw
    have k0 := HK0.out
    have k0n := HK0n.out
    go_simp
    try with_reducible rfl
  try simp only [List.getElem_toArray, List.getElem_cons_succ, List.getElem_cons_zero, Act.put, List.setIfInBounds_toArray, List.set_cons_zero, List.set_cons_succ]
  refine wpAnyH_take (i := 2) (v := ?_) rfl (by kernel_rfl) (by kernel_rfl) (by kernel_rfl) (fun _ _ _ h => h) (Or.inl ⟨by rfl, ?_⟩) hHeld ?_
  rotate_left
  · intro wq hSw
    replace hSw : Grew w1 wq := hSw
    have x0 := HX0.out _ hSw
    go_simp
    try with_reducible rfl
  try simp only [List.getElem_toArray, List.getElem_cons_succ, List.getElem_cons_zero, Act.put, List.setIfInBounds_toArray, List.set_cons_zero, List.set_cons_succ]
  refine wpAnyH_take (i := 3) (v := ?_) rfl (by kernel_rfl) (by kernel_rfl) (by kernel_rfl) (fun _ _ _ h => h) (Or.inl ⟨by rfl, ?_⟩) hHeld ?_
  rotate_left
  · intro wq hSw
    replace hSw : Grew w1 wq := hSw
    go_simp
    try with_reducible rfl
  try simp only [List.getElem_toArray, List.getElem_cons_succ, List.getElem_cons_zero, Act.put, List.setIfInBounds_toArray, List.set_cons_zero, List.set_cons_succ]
  refine wpAnyH_take (i := 4) (v := ?_) rfl (by kernel_rfl) (by kernel_rfl) (by kernel_rfl) (fun _ _ _ h => h) (Or.inl ⟨by rfl, ?_⟩) hHeld ?_
  rotate_left
  · intro wq hSw
    replace hSw : Grew w1 wq := hSw
    have k1 := HK1.out
    have k1n := HK1n.out
    go_simp
    try with_reducible rfl
  try simp only [List.getElem_toArray, List.getElem_cons_succ, List.getElem_cons_zero, Act.put, List.setIfInBounds_toArray, List.set_cons_zero, List.set_cons_succ]
  refine wpAnyH_take (i := 5) (v := ?_) rfl (by kernel_rfl) (by kernel_rfl) (by kernel_rfl) (fun _ _ _ h => h) (Or.inl ⟨by rfl, ?_⟩) hHeld ?_
  rotate_left
  · intro wq hSw
    replace hSw : Grew w1 wq := hSw
    have x1 := HX1.out _ hSw
    go_simp
    try with_reducible rfl
  try simp only [List.getElem_toArray, List.getElem_cons_succ, List.getElem_cons_zero, Act.put, List.setIfInBounds_toArray, List.set_cons_zero, List.set_cons_succ]
  refine wpAnyH_take (i := 6) (v := ?_) rfl (by kernel_rfl) (by kernel_rfl) (by kernel_rfl) (fun _ _ _ h => h) (Or.inl ⟨by rfl, ?_⟩) hHeld ?_
  rotate_left
  · intro wq hSw
    replace hSw : Grew w1 wq := hSw
    go_simp
    try with_reducible rfl
  try simp only [List.getElem_toArray, List.getElem_cons_succ, List.getElem_cons_zero, Act.put, List.setIfInBounds_toArray, List.set_cons_zero, List.set_cons_succ]
  refine wpAnyH_take (i := 7) (v := ?_) rfl (by kernel_rfl) (by kernel_rfl) (by kernel_rfl) (fun _ _ _ h => h) (Or.inl ⟨by rfl, ?_⟩) hHeld ?_
  rotate_left
  · intro wq hSw
    replace hSw : Grew w1 wq := hSw
    have ew := EWa.out
    go_simp
    try with_reducible rfl
  try simp only [List.getElem_toArray, List.getElem_cons_succ, List.getElem_cons_zero, Act.put, List.setIfInBounds_toArray, List.set_cons_zero, List.set_cons_succ]
  refine wpAnyH_take (i := 8) (v := ?_) rfl (by kernel_rfl) (by kernel_rfl) (by kernel_rfl) (fun _ _ _ h => h) (Or.inl ⟨by rfl, ?_⟩) hHeld ?_
  rotate_left
  · intro wq hSw
    replace hSw : Grew w1 wq := hSw
    have ew := EWb.out
    go_simp
    try with_reducible rfl
  try simp only [List.getElem_toArray, List.getElem_cons_succ, List.getElem_cons_zero, Act.put, List.setIfInBounds_toArray, List.set_cons_zero, List.set_cons_succ]
  refine wpAnyH_take (i := 9) (v := ?_) rfl (by kernel_rfl) (by kernel_rfl) (by kernel_rfl) (fun _ _ _ h => h) (Or.inl ⟨by rfl, ?_⟩) hHeld ?_
  rotate_left
  · intro wq hSw
    replace hSw : Grew w1 wq := hSw
    have ew := EWc.out
    go_simp
    try with_reducible rfl
  try simp only [List.getElem_toArray, List.getElem_cons_succ, List.getElem_cons_zero, Act.put, List.setIfInBounds_toArray, List.set_cons_zero, List.set_cons_succ]
  refine wpAnyH_ready (rs := [10]) (by kernel_rfl) (by simp) ?_
  refine AllReadyH.cons rfl (fun K hK => ?_) AllReadyH.nil
  go_simp
  have R1 : Hid (Row (wq1.alloc (.cells #[.int .u8 y0, .int .u8 y1, .int .u8 129, .int .u8 (128 + code % 16), .int .u8 0, .int .u8 1] 5)) w1.heap.size (.slice (some ⟨wq1.heap.size, 0, none⟩) 6 6) [y0, y1, 129, 128 + code % 16, 0, 1]) := Lib.hid (Row.lit wq1 w1.heap.size hHeld.size #[.int .u8 y0, .int .u8 y1, .int .u8 129, .int .u8 (128 + code % 16), .int .u8 0, .int .u8 1] [y0, y1, 129, 128 + code % 16, 0, 1] rfl (by unfold maxLen; simp) _ rfl 6 rfl)
  have gk2 : Grew wq1 (wq1.alloc (.cells #[.int .u8 y0, .int .u8 y1, .int .u8 129, .int .u8 (128 + code % 16), .int .u8 0, .int .u8 1] 5)) := (Grew.refl _).alloc _
  generalize (wq1.alloc (.cells #[.int .u8 y0, .int .u8 y1, .int .u8 129, .int .u8 (128 + code % 16), .int .u8 0, .int .u8 1] 5)) = wk2 at *
  generalize wq1.heap.size = L0 at *
  refine hK.out _ _ (hHeld.trans gk2) (fun hHeld => ?_)
  clear hK K
  try simp only [List.getElem_toArray, List.getElem_cons_succ, List.getElem_cons_zero, Act.put, List.setIfInBounds_toArray, List.set_cons_zero, List.set_cons_succ]
  refine wpAnyH_ready (rs := [11]) (by kernel_rfl) (by simp) ?_
  refine AllReadyH.cons rfl (fun K hK => ?_) AllReadyH.nil
  refine step_zeros_t rfl (.tmp 35) (.const (.int .i64 6)) rfl hHeld 6 R1.out (by rfl) (by rfl) (by simp only [List.length_cons, List.length_nil]; omega) ?_
  intro v2 wk3 R2 gk3 gb
  clear gb R1
  refine hK.out _ _ (gk3) (fun hHeld => ?_)
  clear hK K
  try simp only [List.getElem_toArray, List.getElem_cons_succ, List.getElem_cons_zero, Act.put, List.setIfInBounds_toArray, List.set_cons_zero, List.set_cons_succ]
  refine wpAnyH_take (i := 12) (v := ?_) rfl (by kernel_rfl) (by kernel_rfl) (by kernel_rfl) (fun _ _ _ h => h) (Or.inl ⟨by rfl, ?_⟩) hHeld ?_
  rotate_left
  · intro wq hSw
    replace hSw : Grew w1 wq := hSw
    go_simp
    try with_reducible rfl
  try simp only [List.getElem_toArray, List.getElem_cons_succ, List.getElem_cons_zero, Act.put, List.setIfInBounds_toArray, List.set_cons_zero, List.set_cons_succ]
  refine wpAnyH_done (by kernel_rfl) ?_ _
  try simp only [List.getElem_toArray, List.getElem_cons_succ, List.getElem_cons_zero, Act.put, List.setIfInBounds_toArray, List.set_cons_zero, List.set_cons_succ]
  have HLA := Lib.hid (show ([y0, y1, 129, 128 + code % 16, 0, 1] ++ List.replicate 6 0).length + ys.length ≤ 140737488355328 by have := H5L.out; simp only [List.length_append, List.length_cons, List.length_nil, List.length_replicate]; omega)
  have HB6 := Lib.hid (HB5.out.grew hHeld)
  go_wp2_with (refine wpList_append_b (W := w1) rfl (.tmp 37) (.tmp 40) rfl hHeld R2.out HB6.out (by rfl) (by rfl) HLA.out ?_; intro v9 w9 R9 g9 y9; clear y9)
  go_ret2
  have hq := R9.out.buf ((HOK6.out.app (bytes_lit (by decide))).app H5O.out)
  rw [HW.out]
  exact ⟨_, rfl, hq, g1.trans g9⟩
theorem qsV_end {b : List Int} (h : (qsV b).2.2.2 = 0) : 12 ≤ b.length ∧ 16 ≤ (qsV b).2.2.1 ∧ (qsV b).2.2.1 ≤ b.length := by
  unfold qsV at h ⊢
  split at h
  · simp at h
  · rename_i h1
    rw [if_neg h1]
    split at h
    · simp at h
    · rename_i h2
      rw [if_neg h2]
      split at h
      · rename_i h3; exact absurd h h3
      · rename_i h3
        rw [if_neg h3]
        split at h
        · simp at h
        · rename_i h4
          rw [if_neg h4]
          have := namV_at (b := b) (p := 12) (by omega)
          simp only
          omega
theorem refFail_c {v : Value} {xs : List Int} (code : Int) (hl : xs.length ≤ 140737488355328) {w : World} (hb : Buf w v xs) :
    Calls Tryz.prog 12 #[v, .int .i64 code] w fun e w' => ∃ u, e = .returned (.tuple #[u, .bool (failOk xs)]) ∧ Buf w' u (failV xs code) ∧ Grew w w' := by
  have no : failOk xs = false → (Calls Tryz.prog 12 #[v, .int .i64 code] w fun e w' => e = .returned (.tuple #[.slice none 0 0, .bool false]) ∧ Grew w w') → Calls Tryz.prog 12 #[v, .int .i64 code] w fun e w' => ∃ u, e = .returned (.tuple #[u, .bool (failOk xs)]) ∧ Buf w' u (failV xs code) ∧ Grew w w' := fun h hc => by
    unfold failV
    rw [h]
    exact hc.mono fun _ _ ⟨h1, h2⟩ => ⟨_, h1, Buf.nil _, h2⟩
  cases h0 : ((qsV xs).2.2.2 != 0)
  · cases hy : qyV xs
    · exact no (by unfold failOk; rw [hy, Bool.and_false]) (fail_1 code hl h0 hy hb)
    · have he : (qsV xs).2.2.2 = 0 := by simpa using h0
      have hq := qsV_end he
      have hok : failOk xs = true := by unfold failOk; rw [hy, he]; rfl
      unfold failV
      rw [if_pos hok, hok]
      obtain ⟨a, c, rfl, _, _⟩ := id hb.shape
      exact fail_yes code hl hq.1 (qsV xs).2.2.1.toNat (by omega) (by omega) (by omega) h0 hy hb
  · exact no (by unfold failOk; rw [show ((qsV xs).2.2.2 == 0) = false by simpa using h0]; rfl) (fail_0 code hl h0 hb)
end Go.Proofs.YtnafdgpkofffaaaGreatDoor
