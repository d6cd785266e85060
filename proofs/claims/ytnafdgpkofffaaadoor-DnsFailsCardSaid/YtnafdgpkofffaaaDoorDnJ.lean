/-
  Package dns: the bytes of labels; Ask.
-/
import Derived.Test.YtnafdgpkofffaaaDoorDnC
import Derived.Test.YtnafdgpkofffaaaDoorDnF
set_option maxRecDepth 4000
set_option linter.unusedVariables false
set_option linter.unusedSimpArgs false
namespace Go.Proofs.YtnafdgpkofffaaaDoor
open Go.RowKit

theorem wpList_append_str {ops : Array Oper} {rest : List Oper} {o : Oper} {a : Act} {w W : World} {Q : Exit → Act → World → Prop} (hgd : o.guard = none) (s x : Operand)
    (ho : o.op = .call { callee := .builtin .append, args := #[s, x], argTypes := #[22, 9] }) (hgr : Grew W w)
    {v : Value} {xs ys : List Int} {S : ByteArray} (hown : Row w W.heap.size v xs) (hy : AreBytes ys) (hS : S = strOfNums ys) (hs : a.eval s = v) (hx : a.eval x = .string S) (hlen : xs.length + ys.length ≤ 140737488355328)
    (h : ∀ v' w', Hid (Row w' W.heap.size v' (xs ++ ys)) → Grew W w' → w.grownBy w' v.ownBlock → wpList Tryd.prog ops Q rest (a.put o.dst v') w') : wpList Tryd.prog ops Q (o :: rest) a w :=
  wpList_plain hgd fun _ hK => wp_append_str s x ho hgr hown hy hs (by rw [hx, hS]) hlen fun v' w' h2 h3 h4 => hK _ _ (h v' w' h2 h3 h4)
theorem putLab_take (L : List (List Int)) (k : Nat) (h : k < L.length) : putLab (L.take (k + 1)) = putLab (L.take k) ++ [((L.getD k []).length : Int)] ++ L.getD k [] := by
  rw [List.take_add_one, List.getElem?_eq_getElem h, List.getD_eq_getElem?_getD, List.getElem?_eq_getElem h]
  unfold putLab
  rw [List.map_append, List.flatten_append, List.append_assoc]
  congr 1
  exact List.append_nil _
theorem putLab_le (L : List (List Int)) (k : Nat) : (putLab (L.take k)).length ≤ (putLab L).length := by
  have : putLab L = putLab (L.take k) ++ putLab (L.drop k) := by
    conv => lhs; rw [← List.take_append_drop k L]
    unfold putLab
    rw [List.map_append, List.flatten_append]
  rw [this, List.length_append]
  omega
theorem putLab_ok {L : List (List Int)} (h : ∀ l ∈ L, AreBytes l ∧ l.length ≤ 63) : AreBytes (putLab L) := fun z hz => by
  unfold putLab at hz
  obtain ⟨x, hx, hz⟩ := List.mem_flatten.1 hz
  obtain ⟨l, hl, rfl⟩ := List.mem_map.1 hx
  rcases List.mem_cons.1 hz with rfl | hz
  · have := (h l hl).2; omega
  · exact (h l hl).1 z hz
set_option maxHeartbeats 4000000 in
theorem labelBytes_c {LL : List (List Int)} {v : Value} (hok : ∀ l ∈ LL, AreBytes l ∧ l.length ≤ 63) (hmany : LL.length ≤ 70001) (hlen : (putLab LL).length ≤ 70000) {w : World} (hrd : RdC w noAv (.row 1 (datS LL)) v) :
    Calls Tryd.prog 20 #[v] w fun e w' => ∃ u, e = .returned u ∧ Buf w' u (putLab LL ++ [0]) ∧ Grew w w' := by
  obtain ⟨a, c, rfl, _⟩ := hrd.shape
  obtain ⟨_, hcl⟩ := datS_cells hrd
  have HOK := Lib.hid hok
  have HLEN := Lib.hid hlen
  obtain ⟨m, hm⟩ : ∃ m, m = LL.length := ⟨_, rfl⟩
  have HM := Lib.hid hm
  have HCL := Lib.hid hcl
  rw [datS_len, ← hm]
  rw [← hm] at hmany
  clear hrd hcl hok hlen hm
  go_enter Tryd.func20, Tryd.ntmps20
  go_wp2_with fail
  go_loopw [3, 8] (fun v i wr => ∃ k : Nat, i = .int .i64 k ∧ k ≤ m ∧ Hid (Row wr w.heap.size v (putLab (LL.take k))) ∧ Grew w wr) (fun _ i _ => m - (intOf i).toNat)
  case atStart => exact ⟨0, rfl, Nat.zero_le _, Lib.hid (Row.nil _ _), Grew.refl _⟩
  case round =>
    obtain ⟨k, rfl, hk, HR, gr⟩ := hrel
    by_cases hin : k < m
    · have hin' : (k : Int) < (m : Int) := by omega
      have hkx : k < LL.length := by rw [← HM.out]; exact hin
      obtain ⟨bk, off, rfl, hat⟩ := HCL.out (by rintro rfl; simp at hkx)
      have x1 := hat wr gr k hkx
      have hmem : LL.getD k [] ∈ LL := by rw [List.getD_eq_getElem?_getD, List.getElem?_eq_getElem hkx]; exact List.getElem_mem hkx
      have hlok := HOK.out _ hmem
      have HPT := Lib.hid (putLab_take LL k hkx)
      have HPL := Lib.hid (putLab_le LL k)
      have HPK := Lib.hid (putLab_le LL (k + 1))
      obtain ⟨lab, hlab⟩ : ∃ lab, lab = LL.getD k [] := ⟨_, rfl⟩
      rw [← hlab] at x1 hlok HPT
      obtain ⟨j, hj⟩ : ∃ j, j = lab.length := ⟨_, rfl⟩
      obtain ⟨S, hS⟩ : ∃ S, S = strOfNums lab := ⟨_, rfl⟩
      have hsz : S.size = j := by rw [hS, strOf_size, hj]
      rw [← hS] at x1
      have HLB := Lib.hid hlok.1
      have HS := Lib.hid hS
      have hj63 : j ≤ 63 := by have := hlok.2; omega
      have hwj : IntKind.u8.wrap (j : Int) = (j : Int) := IntWalk.u8_in _ (by omega)
      rw [← hj] at HPT
      have HJ := Lib.hid hj
      clear hat hmem hkx hlok hlab hj hS
      go_upto_region 5 with fail
      have HG1 := Lib.hid (gr.alloc (.cells #[.int .u8 (j : Int)] 5))
      have HR1 := Lib.hid (HR.out.alloc (.cells #[.int .u8 (j : Int)] 5))
      have HB1 := Lib.hid ((Row.lit wr wr.heap.size (Nat.le_refl _) #[.int .u8 (j : Int)] [(j : Int)] rfl (by unfold maxLen; simp) _ rfl 1 rfl).buf (fun z hz => by obtain rfl := List.mem_singleton.1 hz; omega))
      have HX1 := Lib.hid (show (putLab (LL.take k)).length + [(j : Int)].length ≤ 140737488355328 by have := HPL.out; have := HLEN.out; simp only [List.length_singleton]; omega)
      have HX2 := Lib.hid (show (putLab (LL.take k) ++ [(j : Int)]).length + lab.length ≤ 140737488355328 by have := HPL.out; have := HLEN.out; have := HJ.out; simp only [List.length_append, List.length_singleton]; omega)
      go_upto_region 6 with (first | (refine wpList_append_b (W := w) rfl (.tmp 12) (.tmp 16) rfl HG1.out HR1.out HB1.out (by rfl) (by rfl) HX1.out ?_; intro v2 w2 R2 g2 gb; clear gb) | (refine wpList_append_str (W := w) rfl (.tmp 17) (.tmp 18) rfl g2 R2.out HLB.out HS.out (by rfl) (by rfl) HX2.out ?_; intro v3 w3 R3 g3 gb; clear gb))
      have HR3 : Hid (Row w3 w.heap.size v3 (putLab (LL.take (k + 1)))) := Lib.hid (by rw [HPT.out]; exact R3.out)
      go_wp2_with fail
      go_round
      case rel => exact ⟨k + 1, by go_num, by omega, HR3, g3⟩
      case measure => simp [intOf]; omega
    · have hin' : ¬ (k : Int) < (m : Int) := by omega
      have hkl : k = LL.length := by rw [← HM.out]; omega
      rw [hkl, List.take_length] at HR
      clear hkl
      go_upto_region 7 with fail
      have HG1 := Lib.hid (gr.alloc (.cells #[.int .u8 0] 5))
      have HR1 := Lib.hid (HR.out.alloc (.cells #[.int .u8 0] 5))
      have HB1 := Lib.hid ((Row.lit wr wr.heap.size (Nat.le_refl _) #[.int .u8 0] [0] rfl (by unfold maxLen; simp) _ rfl 1 rfl).buf (fun z hz => by obtain rfl := List.mem_singleton.1 hz; omega))
      have HX1 := Lib.hid (show (putLab LL).length + [(0 : Int)].length ≤ 140737488355328 by have := HLEN.out; simp only [List.length_singleton]; omega)
      go_wp2_with (refine wpList_append_b (W := w) rfl (.tmp 21) (.tmp 22) rfl HG1.out HR1.out HB1.out (by rfl) (by rfl) HX1.out ?_; intro v2 w2 R2 g2 gb; clear gb)
      go_ret
      exact ⟨_, rfl, R2.out.buf ((putLab_ok HOK.out).app (fun z hz => by obtain rfl := List.mem_singleton.1 hz; omega)), g2⟩
def numOk (x : Int) : Bool := decide (0 ≤ x) && decide (x ≤ 65535)
theorem isNum_c (x : Int) (b : Bool) (h : numOk x = b) (w : World) : Calls Tryd.prog 16 #[.int .i64 x] w fun e w' => e = .returned (.bool b) ∧ w' = w := by
  subst h
  exact isNumber_c x w
theorem askOk_eq (id : Int) (xs : List Int) (kind : Int) : askOk id xs kind = (nameOk (trimV xs) && (numOk id && numOk kind)) := by
  unfold askOk numOk
  rw [lblV_name]
  simp only [Bool.and_assoc]
theorem ask21_0 {xs : List Int} (id kind : Int) (hxo : AreBytes xs) (hl : xs.length ≤ 2000) (h0 : numOk id = false) (w : World) :
    Calls Tryd.prog 7 #[.int .i64 id, .string (strOfNums xs), .int .i64 kind] w fun e w' => e = .returned (.tuple #[.slice none 0 0, .int .i64 2]) ∧ Grew w w' := by
  have HT := Lib.hid (fun w => trim_c hxo (by omega) w)
  have HN := Lib.hid (fun w => isName_in (trimV_ok hxo) (by have := trimV_le xs; omega) w _ rfl)
  generalize nameOk (trimV xs) = B at *
  clear hxo hl
  generalize strOfNums xs = S at *
  generalize strOfNums (trimV xs) = S1 at *
  go_enter Tryd.func7, Tryd.ntmps7
  go_wp2_with fail
  refine (HT.out _).mono ?_
  rintro e wx ⟨rfl, h9⟩
  obtain rfl := h9.symm
  go_wp2_with (first | (go_at_call 16; refine (isNum_c _ _ (by assumption) _).mono ?_; rintro e wx ⟨rfl, h2⟩; obtain rfl := h2.symm) | (go_at_call 17; refine (HN.out _).mono ?_; rintro e wn ⟨rfl, gn⟩))
  go_ret2
  exact ⟨rfl, Grew.refl _⟩
theorem ask21_1 {xs : List Int} (id kind : Int) (hxo : AreBytes xs) (hl : xs.length ≤ 2000) (h0 : numOk id = true) (h1 : numOk kind = false) (w : World) :
    Calls Tryd.prog 7 #[.int .i64 id, .string (strOfNums xs), .int .i64 kind] w fun e w' => e = .returned (.tuple #[.slice none 0 0, .int .i64 2]) ∧ Grew w w' := by
  have HT := Lib.hid (fun w => trim_c hxo (by omega) w)
  have HN := Lib.hid (fun w => isName_in (trimV_ok hxo) (by have := trimV_le xs; omega) w _ rfl)
  generalize nameOk (trimV xs) = B at *
  clear hxo hl
  generalize strOfNums xs = S at *
  generalize strOfNums (trimV xs) = S1 at *
  go_enter Tryd.func7, Tryd.ntmps7
  go_wp2_with fail
  refine (HT.out _).mono ?_
  rintro e wx ⟨rfl, h9⟩
  obtain rfl := h9.symm
  go_wp2_with (first | (go_at_call 16; refine (isNum_c _ _ (by assumption) _).mono ?_; rintro e wx ⟨rfl, h2⟩; obtain rfl := h2.symm) | (go_at_call 17; refine (HN.out _).mono ?_; rintro e wn ⟨rfl, gn⟩))
  go_ret2
  exact ⟨rfl, Grew.refl _⟩
theorem ask21_2 {xs : List Int} (id kind : Int) (hxo : AreBytes xs) (hl : xs.length ≤ 2000) (h0 : numOk id = true) (h1 : numOk kind = true) (h2 : nameOk (trimV xs) = false) (w : World) :
    Calls Tryd.prog 7 #[.int .i64 id, .string (strOfNums xs), .int .i64 kind] w fun e w' => e = .returned (.tuple #[.slice none 0 0, .int .i64 2]) ∧ Grew w w' := by
  have HT := Lib.hid (fun w => trim_c hxo (by omega) w)
  have HN := Lib.hid (fun w => isName_in (trimV_ok hxo) (by have := trimV_le xs; omega) w _ rfl)
  rw [h2] at HN
  clear h2
  generalize nameOk (trimV xs) = B at *
  clear hxo hl
  generalize strOfNums xs = S at *
  generalize strOfNums (trimV xs) = S1 at *
  go_enter Tryd.func7, Tryd.ntmps7
  go_wp2_with fail
  refine (HT.out _).mono ?_
  rintro e wx ⟨rfl, h9⟩
  obtain rfl := h9.symm
  go_wp2_with (first | (go_at_call 16; refine (isNum_c _ _ (by assumption) _).mono ?_; rintro e wx ⟨rfl, h2⟩; obtain rfl := h2.symm) | (go_at_call 17; refine (HN.out _).mono ?_; rintro e wn ⟨rfl, gn⟩))
  go_ret2
  exact ⟨rfl, gn⟩
set_option maxHeartbeats 2000000 in
theorem ask21_yes {xs : List Int} (id kind : Int) (hxo : AreBytes xs) (hl : xs.length ≤ 2000) (h0 : numOk id = true) (h1 : numOk kind = true) (h2 : nameOk (trimV xs) = true) (w : World) :
    Calls Tryd.prog 7 #[.int .i64 id, .string (strOfNums xs), .int .i64 kind] w fun e w' => ∃ u, e = .returned (.tuple #[u, .int .i64 0]) ∧ Buf w' u (askW id xs kind) ∧ Grew w w' := by
  have HT := Lib.hid (fun w => trim_c hxo (by omega) w)
  have hto := trimV_ok hxo
  have htl := trimV_le xs
  have HN := Lib.hid (fun w => isName_in hto (by omega) w _ rfl)
  have HLO := Lib.hid (fun w => labelsOf_c hto (by omega) w)
  rw [h2] at HN
  have hv2 : (lblV xs).2 = true := by rw [lblV_name]; exact h2
  have hput := lblV_put hv2
  have hplen := lblV_len hv2
  rw [hput, List.length_append, List.length_singleton] at hplen
  have hall := (Bool.and_eq_true_iff.1 h2).2
  have HLOK := Lib.hid (show ∀ l ∈ labsOf (trimV xs), AreBytes l ∧ l.length ≤ 63 from fun l hl9 => by
    have hlab := List.all_eq_true.1 hall l hl9
    have hlen := (of_decide_eq_true ((Bool.and_eq_true_iff.1 hlab).1 : lenOk l = true)).2
    refine ⟨?_, hlen⟩
    unfold labsOf at hl9
    split at hl9
    · simp at hl9
    · exact splitF_ok _ [] (fun z hz => by simp at hz) hto l hl9)
  have HMANY := Lib.hid (show (labsOf (trimV xs)).length ≤ 70001 by
    unfold labsOf
    split
    · simp
    · have := splitF_many (trimV xs) []; omega)
  have HPLEN := Lib.hid (show (putLab (labsOf (trimV xs))).length ≤ 255 by omega)
  have HFL := Lib.hid (show [headD id 256, putLab (labsOf (trimV xs)) ++ [0], putL kind 2 true, putL 1 2 true].flatten = askW id xs kind by
    unfold askW headD
    rw [hput, show putL 256 2 true = [1, 0] by decide, show putL 1 2 true = [0, 1] by decide]
    simp [List.append_assoc])
  clear h2 hv2 hput hplen hall hto htl hxo hl
  generalize labsOf (trimV xs) = LL at *
  generalize strOfNums (trimV xs) = S1 at *
  generalize askW id xs kind = OUT at *
  generalize strOfNums xs = S at *
  go_enter Tryd.func7, Tryd.ntmps7
  go_wp2_with fail
  refine (HT.out _).mono ?_
  rintro e wx ⟨rfl, h9⟩
  obtain rfl := h9.symm
  go_upto_region 4 with (first | (go_at_call 16; refine (isNum_c _ _ (by assumption) _).mono ?_; rintro e wx ⟨rfl, h2⟩; obtain rfl := h2.symm) | (go_at_call 17; refine (HN.out _).mono ?_; rintro e wn ⟨rfl, gn⟩))
  have HGN := Lib.hid gn
  clear gn
  go_wp2_with fail
  refine (headOf_c id 256 _).mono ?_
  rintro e w3 ⟨ha, hc, rfl, hh, G3⟩
  have HH0 := Lib.hid hh
  clear hh
  go_wp2_with fail
  refine (HLO.out _).mono ?_
  rintro e w4 ⟨v4, rfl, hr4, G4⟩
  have HR4 := Lib.hid hr4
  have HH := Lib.hid (HH0.out.grew G4)
  clear hr4 HH0
  go_wp2_with fail
  refine (labelBytes_c HLOK.out HMANY.out (by have := HPLEN.out; omega) HR4.out).mono ?_
  rintro e w5 ⟨v5, rfl, hb5, G5⟩
  obtain ⟨la, lc, rfl, _, _⟩ := hb5.shape
  have HLBS0 := Lib.hid hb5
  obtain ⟨ln, hln⟩ : ∃ ln, ln = (putLab LL ++ [0]).length := ⟨_, rfl⟩
  rw [← hln] at HLBS0 ⊢
  have HLBS := HLBS0
  clear hb5 hln HLBS0
  go_wp2_with fail
  refine (pair_c kind _).mono ?_
  rintro e w6 ⟨pa, pc, rfl, hb6, G6⟩
  have HPK := Lib.hid hb6
  clear hb6
  go_wp2_with fail
  refine (pair_c 1 _).mono ?_
  rintro e w7 ⟨qa, qc, rfl, hb7, G7⟩
  have HPO := Lib.hid hb7
  clear hb7
  have GALL := ((((HGN.out.trans G3).trans G4).trans G5).trans G6).trans G7
  have HLB := Lib.hid (Bufs.ofBlk (Blk.new w7 #[.slice ha 12 hc, .slice la ln lc, .slice pa 2 pc, .slice qa 2 qc] 22 _ rfl) [headD id 256, putLab LL ++ [0], putL kind 2 true, putL 1 2 true] 4 4 rfl (by unfold maxLen; simp) (fun i hi => by
    match i, hi with
    | 0, _ => exact ⟨_, rfl, (HH.out.grew ((G5.trans G6).trans G7)).grew ((Grew.refl w7).alloc _)⟩
    | 1, _ => exact ⟨_, rfl, (HLBS.out.grew (G6.trans G7)).grew ((Grew.refl w7).alloc _)⟩
    | 2, _ => exact ⟨_, rfl, (HPK.out.grew G7).grew ((Grew.refl w7).alloc _)⟩
    | 3, _ => exact ⟨_, rfl, (HPO.out).grew ((Grew.refl w7).alloc _)⟩))
  have HLN := Lib.hid (show [headD id 256, putLab LL ++ [0], putL kind 2 true, putL 1 2 true].flatten.length ≤ 140737488355328 by have := HPLEN.out; simp only [List.flatten_cons, List.flatten_nil, List.length_append, headD_len, putB_len, List.length_nil, List.length_singleton]; omega)
  have gA : Grew w7 (w7.alloc (.cells #[.slice ha 12 hc, .slice la ln lc, .slice pa 2 pc, .slice qa 2 qc] 22)) := (Grew.refl _).alloc _
  go_wp2_with fail
  refine (concat_b _ HLB.out HLN.out).mono ?_
  rintro e w9 ⟨u, rfl, hrow, HC, g9⟩
  rw [HFL.out] at HC
  have HC9 := Lib.hid HC
  clear HC hrow
  go_wp2_with fail
  go_ret2
  exact ⟨_, rfl, HC9.out, (GALL.trans gA).trans g9⟩
theorem Ask21_c {xs : List Int} (id kind : Int) (hxo : AreBytes xs) (hl : xs.length ≤ 2000) (w : World) :
    Calls Tryd.prog 7 #[.int .i64 id, .string (strOfNums xs), .int .i64 kind] w fun e w' => ∃ u, e = .returned (.tuple #[u, .int .i64 (askE id xs kind)]) ∧ Buf w' u (askV id xs kind) ∧ Grew w w' := by
  have no : askOk id xs kind = false → (Calls Tryd.prog 7 #[.int .i64 id, .string (strOfNums xs), .int .i64 kind] w fun e w' => e = .returned (.tuple #[.slice none 0 0, .int .i64 2]) ∧ Grew w w') → Calls Tryd.prog 7 #[.int .i64 id, .string (strOfNums xs), .int .i64 kind] w fun e w' => ∃ u, e = .returned (.tuple #[u, .int .i64 (askE id xs kind)]) ∧ Buf w' u (askV id xs kind) ∧ Grew w w' := fun h hc => by
    unfold askE askV
    rw [h]
    exact hc.mono fun _ _ ⟨he, g⟩ => ⟨_, he, Buf.nil _, g⟩
  have hq := askOk_eq id xs kind
  cases h0 : numOk id
  · exact no (by rw [hq, h0]; simp) (ask21_0 id kind hxo hl h0 w)
  · cases h1 : numOk kind
    · exact no (by rw [hq, h1]; simp) (ask21_1 id kind hxo hl h0 h1 w)
    · cases h2 : nameOk (trimV xs)
      · exact no (by rw [hq, h2]; rfl) (ask21_2 id kind hxo hl h0 h1 h2 w)
      · have h : askOk id xs kind = true := by rw [hq, h0, h1, h2]; rfl
        unfold askE askV
        rw [h]
        exact ask21_yes id kind hxo hl h0 h1 h2 w
end Go.Proofs.YtnafdgpkofffaaaDoor
