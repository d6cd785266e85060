/-
  Package uart: bytes that wait with more behind them (behind): an append onto bytes that are cut at their end makes other memory.
-/
import Derived.Test.YtegncliegmknaaaUaB
import Derived.Test.YtegncliegmknaaaDeps
set_option linter.unusedVariables false
set_option linter.unusedSimpArgs false
namespace Go.Proofs.Ytegncliegmknaaa
open Go.RowKit

/-- s[:len(s):len(s)], as the machine runs it: the value as a variable. -/
theorem Buf.run_full {w : World} {a : Option Addr} {n c : Nat} {xs : List Int} (h : Buf w (.slice a n c) xs) :
    ∃ a', Buf w (.slice a' n n) xs ∧ ∀ k2 k3 w', (Instr.sliceAt 24 (.slice a n c) none (some (.int k2 n)) (some (.int k3 n))).run Try.prog w' = .ok (.slice a' n n) w' := by
  obtain ⟨rfl, hc⟩ := h.lenEq
  have hu : Try.prog.underlying 24 = some (.slice (Try.prog.elem 24)) := by kernel_rfl
  obtain ⟨a0, c0, e, hc', ha⟩ := h.shape
  cases e
  refine ⟨if xs.length = 0 then a else a.map (·.add (0 * 1)), ⟨⟨_, _, rfl, Nat.le_refl _, fun hne => ?_⟩, h.ok, h.len⟩, fun k2 k3 w' => ?_⟩
  · obtain ⟨b, off, rfl, hb⟩ := ha hne
    have : xs.length ≠ 0 := by have := List.length_pos_iff.2 hne; omega
    rw [if_neg this]
    exact ⟨b, off, by simp [Addr.add], hb⟩
  · rw [run_sliceAt_slice w' _ _ _ _ _ hu, run_slice_hm w' _ a _ c hu k2 k3 _ _ (by omega) (by omega) (by omega), u8_size]
    simp only [Result.andThen_ok, sliced, Int.toNat_natCast, Nat.sub_zero]

/-- append(s, x...), s whatever reads as bytes, without room behind: other memory, or s itself where nothing is appended. -/
theorem run_append_full {w : World} {a : Option Addr} {n : Nat} {u : Value} {xs ys : List Int} (ty : TypeId) (h : Buf w (.slice a n n) xs) (hu : Buf w u ys) (hlen : xs.length + ys.length ≤ 140737488355328) :
    ∃ v' w', (Builtin.append_ #[24, 24] ty #[.slice a n n, u]).run Try.prog w = .ok v' w' ∧ Buf w' v' (xs ++ ys) ∧ Grew w w' := by
  obtain ⟨i0, hi, hz0, hz1, hz2⟩ := info_parts u8_info
  obtain ⟨rfl, _⟩ := h.lenEq
  have hok : AreBytes (xs ++ ys) := fun x hx => by
    rcases List.mem_append.1 hx with hx | hx
    · exact h.ok x hx
    · exact hu.ok x hx
  by_cases hy : ys = []
  · subst hy
    refine ⟨.slice a xs.length xs.length, w, ?_, by simpa using h, Grew.refl w⟩
    obtain ⟨b, c, rfl, hc, _⟩ := hu.shape
    rcases b with _ | ad
    · cases a <;> simp [Builtin.append_, run_underlying Try.underlying24, sizeOf, typeInfo, hi, Builtin.lenOf, Builtin.firstCells, storeCells]
    · have hf := run_firstCells_some (P := Try.prog) w i0.size 0 ad 0 c [] (by simp) (fun j v h => by simp at h)
      cases a <;> simp [Builtin.append_, run_underlying Try.underlying24, sizeOf, typeInfo, hi, Builtin.lenOf, hf, storeCells]
  · have hpos := List.length_pos_iff.2 hy
    rcases a with _ | b
    · obtain rfl : xs = [] := by
        by_cases h' : xs = []
        · exact h'
        · obtain ⟨_, _, e, _, ha⟩ := h.shape
          cases e
          obtain ⟨_, _, e, _⟩ := ha h'
          cases e
      obtain ⟨v', w', hr, ho, hg⟩ := run_append_b ty (Row.nil w w.heap.size) hu (Nat.le_refl _) (by simpa using hlen)
      exact ⟨v', w', hr, ho.buf hok, Below.grown (Grew.refl w) hg (Nat.le_refl _) (fun k h => by cases h)⟩
    · obtain ⟨u0, uc, rfl, _, _⟩ := hu.shape
      obtain ⟨ad, rfl, hs⟩ := hu.src hpos
      have holds : ∀ j u, (xs.map (Value.int .u8))[j]? = some u → w.cell? (b.add j) = some u := fun j u hj => by
        by_cases hx : xs = []
        · subst hx; simp at hj
        · obtain ⟨ad', e, hs'⟩ := h.src (List.length_pos_iff.2 hx)
          cases e
          exact hs' j u hj
      have hr := run_append_grow (P := Try.prog) (w := w) 24 ty 5 i0 (.int .u8 0) Try.underlying24 hi hz0 b xs.length xs.length (xs.map (Value.int .u8)) (by simp [hz1]) holds ad ys.length uc (ys.map (Value.int .u8)) (by simp [hz1]) hs (by omega) (by omega)
        (growslice_fits (by omega) (by rw [hz2]; omega))
      refine ⟨_, _, hr, Row.buf (base := w.heap.size) ⟨by simp, .inr ⟨w.heap.size, _, _, by rw [List.length_append], Nat.le_refl _, heap_alloc_new w.drew _, ?_, grownCap_le_maxLen w _ _ _ (by unfold maxLen; omega), ?_, ?_⟩⟩ hok, ((Grew.refl w).drew1).alloc _⟩
      · rw [List.length_append]; exact grownCap_ge w _ _ _
      · have := grownCap_ge w (xs.length + ys.length) xs.length 5
        simp only [Array.size_append, List.size_toArray, size_zeroCells, List.length_map]
        rw [show (Value.int IntKind.u8 0).cells.size = 1 from rfl]
        omega
      · simp only [Array.toList_append, List.append_assoc, List.map_append]
        rw [← List.append_assoc, List.take_left' (by simp)]
theorem step_append_full {ops : Array Oper} {T : Array Value} {o : Oper} {a : Act} {w : World} {K : Act → World → Prop} {Q : Exit → Act → World → Prop} {E : Prop} (hgd : o.guard = none) (s x : Operand)
    (ho : o.op = .call { callee := .builtin .append, args := #[s, x], argTypes := #[24, 24] })
    {ad : Option Addr} {n : Nat} {u : Value} {xs ys : List Int} (hown : Buf w (.slice ad n n) xs) (hu : Buf w u ys) (hs : a.eval s = .slice ad n n) (hx : a.eval x = u) (hlen : xs.length + ys.length ≤ 140737488355328)
    (h : ∀ v' w', Buf w' v' (xs ++ ys) → Grew w w' → K (a.put o.dst v') w') : if Region.wanted o (yielded ops T) = true then Oper.wp Try.prog o a w K Q else E := by
  have hw : Region.wanted o (yielded ops T) = true := by simp [Region.wanted, hgd]
  rw [if_pos hw]
  obtain ⟨v', w', hr, ho', hg⟩ := run_append_full o.type hown hu hlen
  unfold Oper.wp execOp
  simp only [ho, resolve, invoke, builtin, Sem.run_bind, Sem.run_pure, Result.andThen_ok, List.map_toArray, List.map_cons, List.map_nil, hs, hx, hr]
  exact h v' w' ho' hg

/-- How many more bytes fit. -/
def fitN (n m most : Nat) : Nat := min m (most - n)
theorem fitN_le (n m most : Nat) : fitN n m most ≤ m := Nat.min_le_left _ _

/-- What the operations of a region give. -/
def behR (xs zs : List Int) (av av' au au' : Option Addr) (n cv m cu f cu' : Nat) (lost : Int) : (Nat → Value) → Nat → Value → World → Prop
  | _, 0, v, _ => v = .slice av n cv
  | _, 1, v, _ => v = .slice av n cv
  | _, 2, v, _ => v = .int .i64 (n : Nat)
  | _, 3, v, _ => v = .slice av n cv
  | _, 4, v, _ => v = .int .i64 (n : Nat)
  | _, 5, v, _ => v = .slice av' n n
  | _, 6, v, _ => v = .slice au m cu
  | _, 7, v, _ => v = .int .i64 (f : Nat)
  | _, 8, v, _ => v = .slice au' f cu'
  | _, 9, v, w => Buf w v (xs ++ zs)
  | _, 10, v, _ => v = .slice au m cu
  | _, 11, v, _ => v = .int .i64 (m : Nat)
  | _, 12, v, _ => v = .int .i64 (f : Nat)
  | _, 13, v, _ => v = .int .i64 (lost : Int)
  | vs, 14, v, _ => v = vs 9
  | _, 15, v, _ => v = .int .i64 (lost : Int)
  | _, _, _, _ => True
theorem behR_grew {xs zs : List Int} {av av' au au' : Option Addr} {n cv m cu f cu' : Nat} {lost : Int} : ∀ vs j v w w', Grew w w' → behR xs zs av av' au au' n cv m cu f cu' lost vs j v w → behR xs zs av av' au au' n cv m cu f cu' lost vs j v w'
  | _, 0, _, _, _, _, h => h
  | _, 1, _, _, _, _, h => h
  | _, 2, _, _, _, _, h => h
  | _, 3, _, _, _, _, h => h
  | _, 4, _, _, _, _, h => h
  | _, 5, _, _, _, _, h => h
  | _, 6, _, _, _, _, h => h
  | _, 7, _, _, _, _, h => h
  | _, 8, _, _, _, _, h => h
  | _, 9, _, _, _, g, h => h.grew g
  | _, 10, _, _, _, _, h => h
  | _, 11, _, _, _, _, h => h
  | _, 12, _, _, _, _, h => h
  | _, 13, _, _, _, _, h => h
  | _, 14, _, _, _, _, h => h
  | _, 15, _, _, _, _, h => h
  | _, _ + 16, _, _, _, _, _ => True.intro
theorem behR_lt {xs zs : List Int} {av av' au au' : Option Addr} {n cv m cu f cu' : Nat} {lost : Int} : ∀ vs j v w, ([] : List Nat).contains j = true → behR xs zs av av' au au' n cv m cu f cu' lost vs j v w → ∀ g, leadsTo v = some g → g < w.heap.size
  | _, 0, _, _, hc, _ => by simp at hc
  | _, 1, _, _, hc, _ => by simp at hc
  | _, 2, _, _, hc, _ => by simp at hc
  | _, 3, _, _, hc, _ => by simp at hc
  | _, 4, _, _, hc, _ => by simp at hc
  | _, 5, _, _, hc, _ => by simp at hc
  | _, 6, _, _, hc, _ => by simp at hc
  | _, 7, _, _, hc, _ => by simp at hc
  | _, 8, _, _, hc, _ => by simp at hc
  | _, 9, _, _, hc, _ => by simp at hc
  | _, 10, _, _, hc, _ => by simp at hc
  | _, 11, _, _, hc, _ => by simp at hc
  | _, 12, _, _, hc, _ => by simp at hc
  | _, 13, _, _, hc, _ => by simp at hc
  | _, 14, _, _, hc, _ => by simp at hc
  | _, 15, _, _, hc, _ => by simp at hc
  | _, _ + 16, _, _, hc, _ => by simp at hc
theorem behR_loc {xs zs : List Int} {av av' au au' : Option Addr} {n cv m cu f cu' : Nat} {lost : Int} : ∀ (vs vs' : Nat → Value) j v w, (∀ k ∈ ([[], [], [], [], [], [], [], [], [], [], [], [], [], [], [9], []] : List (List Nat)).getD j [], vs k = vs' k) → behR xs zs av av' au au' n cv m cu f cu' lost vs j v w → behR xs zs av av' au au' n cv m cu f cu' lost vs' j v w
  | _, _, 0, _, _, _, h => h
  | _, _, 1, _, _, _, h => h
  | _, _, 2, _, _, _, h => h
  | _, _, 3, _, _, _, h => h
  | _, _, 4, _, _, _, h => h
  | _, _, 5, _, _, _, h => h
  | _, _, 6, _, _, _, h => h
  | _, _, 7, _, _, _, h => h
  | _, _, 8, _, _, _, h => h
  | _, _, 9, _, _, _, h => h
  | _, _, 10, _, _, _, h => h
  | _, _, 11, _, _, _, h => h
  | _, _, 12, _, _, _, h => h
  | _, _, 13, _, _, _, h => h
  | vs, vs', 14, v, w, hk, h => by show _ = _; rw [← hk 9 (by decide)]; exact h
  | _, _, 15, _, _, _, h => h
  | _, _, _ + 16, _, _, _, _ => True.intro

set_option maxRecDepth 100000 in
set_option maxHeartbeats 2000000 in
theorem behind_in (xs zs : List Int) (av av' au au' : Option Addr) (n cv m cu f cu' : Nat) (lost : Int) (most mx my : Int) {w : World} (hV : Buf w (.slice av' n n) xs) (hU : Buf w (.slice au' f cu') zs) (hl : xs.length + zs.length ≤ 140737488355328)
    (rF : ∀ k2 k3 w', (Instr.sliceAt 24 (.slice av n cv) none (some (.int k2 n)) (some (.int k3 n))).run Try.prog w' = .ok (.slice av' n n) w')
    (rC : ∀ k2 w', (Instr.sliceAt 24 (.slice au m cu) none (some (.int k2 f)) none).run Try.prog w' = .ok (.slice au' f cu') w')
    (hs : IntKind.i64.wrap (most - n) = mx) (hmax : ∀ ts t w', (Builtin.max_ ts t #[.int .i64 mx, .int .i64 0]).run Try.prog w' = .ok (.int .i64 my) w')
    (hmin : ∀ ts t w', (Builtin.min_ ts t #[.int .i64 m, .int .i64 my]).run Try.prog w' = .ok (.int .i64 f) w')
    (hlost : IntKind.i64.wrap ((m : Int) - f) = lost) :
    Calls Try.prog 13 #[.slice av n cv, .slice au m cu, .int .i64 most] w fun e w' => ∃ a c, e = .returned (.tuple #[.slice a (xs ++ zs).length c, .int .i64 lost]) ∧ Hid (Buf w' (.slice a (xs ++ zs).length c) (xs ++ zs)) ∧ Grew w w' := by
  have HV := Lib.hid hV
  have HU := Lib.hid hU
  have RF := rF
  have RC := rC
  clear rF rC hV hU
  go_enter Try.func13, Try.ntmps13
  go_upto_region 2 with fail
  refine region_deps 16 [some 17, some 18, some 19, some 20, some 21, some 22, some 23, some 24, some 25, some 26, some 27, some 28, some 29, some 30, some 6, some 7] [[], [], [], [], [], [], [], [], [], [], [], [], [], [], [9], []] [] (behR xs zs av av' au au' n cv m cu f cu' lost) behR_grew behR_lt behR_loc (Grew.refl w) (by kernel_rfl) (by kernel_rfl) ?_ ?_
  · simp only [List.take_succ_cons, List.take_zero]
    refine GivesAll.cons (fun vs w1 g1 hd K hK => ?_) ?_
    · simp only [putsT, Nat.zero_add, Nat.reduceAdd, List.getD_cons_zero, List.getD_cons_succ, Act.put, List.setIfInBounds_toArray, List.set_cons_zero, List.set_cons_succ] at hK ⊢
      go_simp
      exact hK _ _ (Grew.refl _) rfl (fun h => by simp at h)
    refine GivesAll.cons (fun vs w1 g1 hd K hK => ?_) ?_
    · simp only [putsT, Nat.zero_add, Nat.reduceAdd, List.getD_cons_zero, List.getD_cons_succ, Act.put, List.setIfInBounds_toArray, List.set_cons_zero, List.set_cons_succ] at hK ⊢
      go_simp
      exact hK _ _ (Grew.refl _) rfl (fun h => by simp at h)
    refine GivesAll.cons (fun vs w1 g1 hd K hK => ?_) ?_
    · have e1 : vs 1 = .slice av n cv := hd 1 (by kernel_rfl)
      simp only [putsT, Nat.zero_add, Nat.reduceAdd, List.getD_cons_zero, List.getD_cons_succ, Act.put, List.setIfInBounds_toArray, List.set_cons_zero, List.set_cons_succ, e1] at hK ⊢
      go_simp
      exact hK _ _ (Grew.refl _) rfl (fun h => by simp at h)
    refine GivesAll.cons (fun vs w1 g1 hd K hK => ?_) ?_
    · simp only [putsT, Nat.zero_add, Nat.reduceAdd, List.getD_cons_zero, List.getD_cons_succ, Act.put, List.setIfInBounds_toArray, List.set_cons_zero, List.set_cons_succ] at hK ⊢
      go_simp
      exact hK _ _ (Grew.refl _) rfl (fun h => by simp at h)
    refine GivesAll.cons (fun vs w1 g1 hd K hK => ?_) ?_
    · have e3 : vs 3 = .slice av n cv := hd 3 (by kernel_rfl)
      simp only [putsT, Nat.zero_add, Nat.reduceAdd, List.getD_cons_zero, List.getD_cons_succ, Act.put, List.setIfInBounds_toArray, List.set_cons_zero, List.set_cons_succ, e3] at hK ⊢
      go_simp
      exact hK _ _ (Grew.refl _) rfl (fun h => by simp at h)
    refine GivesAll.cons (fun vs w1 g1 hd K hK => ?_) ?_
    · have e0 : vs 0 = .slice av n cv := hd 0 (by kernel_rfl)
      have e2 : vs 2 = .int .i64 (n : Nat) := hd 2 (by kernel_rfl)
      have e4 : vs 4 = .int .i64 (n : Nat) := hd 4 (by kernel_rfl)
      simp only [putsT, Nat.zero_add, Nat.reduceAdd, List.getD_cons_zero, List.getD_cons_succ, Act.put, List.setIfInBounds_toArray, List.set_cons_zero, List.set_cons_succ, e0, e2, e4] at hK ⊢
      have c9 := RF
      go_simp
      exact hK _ _ (Grew.refl _) rfl (fun h => by simp at h)
    refine GivesAll.cons (fun vs w1 g1 hd K hK => ?_) ?_
    · simp only [putsT, Nat.zero_add, Nat.reduceAdd, List.getD_cons_zero, List.getD_cons_succ, Act.put, List.setIfInBounds_toArray, List.set_cons_zero, List.set_cons_succ] at hK ⊢
      go_simp
      exact hK _ _ (Grew.refl _) rfl (fun h => by simp at h)
    refine GivesAll.cons (fun vs w1 g1 hd K hK => ?_) ?_
    · simp only [putsT, Nat.zero_add, Nat.reduceAdd, List.getD_cons_zero, List.getD_cons_succ, Act.put, List.setIfInBounds_toArray, List.set_cons_zero, List.set_cons_succ] at hK ⊢
      go_simp
      exact hK _ _ (Grew.refl _) rfl (fun h => by simp at h)
    refine GivesAll.cons (fun vs w1 g1 hd K hK => ?_) ?_
    · have e6 : vs 6 = .slice au m cu := hd 6 (by kernel_rfl)
      have e7 : vs 7 = .int .i64 (f : Nat) := hd 7 (by kernel_rfl)
      simp only [putsT, Nat.zero_add, Nat.reduceAdd, List.getD_cons_zero, List.getD_cons_succ, Act.put, List.setIfInBounds_toArray, List.set_cons_zero, List.set_cons_succ, e6, e7] at hK ⊢
      have c9 := RC
      go_simp
      exact hK _ _ (Grew.refl _) rfl (fun h => by simp at h)
    refine GivesAll.cons (fun vs w1 g1 hd K hK => ?_) ?_
    · have e5 : vs 5 = .slice av' n n := hd 5 (by kernel_rfl)
      have e8 : vs 8 = .slice au' f cu' := hd 8 (by kernel_rfl)
      simp only [putsT, Nat.zero_add, Nat.reduceAdd, List.getD_cons_zero, List.getD_cons_succ, Act.put, List.setIfInBounds_toArray, List.set_cons_zero, List.set_cons_succ, e5, e8] at hK ⊢
      refine step_append_full rfl (.tmp 22) (.tmp 25) rfl (HV.out.grew g1) (HU.out.grew g1) (by rfl) (by rfl) hl ?_
      intro v5 w5 h5 g5
      exact hK _ _ g5 h5 (fun h => by simp at h)
    refine GivesAll.cons (fun vs w1 g1 hd K hK => ?_) ?_
    · simp only [putsT, Nat.zero_add, Nat.reduceAdd, List.getD_cons_zero, List.getD_cons_succ, Act.put, List.setIfInBounds_toArray, List.set_cons_zero, List.set_cons_succ] at hK ⊢
      go_simp
      exact hK _ _ (Grew.refl _) rfl (fun h => by simp at h)
    refine GivesAll.cons (fun vs w1 g1 hd K hK => ?_) ?_
    · have e10 : vs 10 = .slice au m cu := hd 10 (by kernel_rfl)
      simp only [putsT, Nat.zero_add, Nat.reduceAdd, List.getD_cons_zero, List.getD_cons_succ, Act.put, List.setIfInBounds_toArray, List.set_cons_zero, List.set_cons_succ, e10] at hK ⊢
      go_simp
      exact hK _ _ (Grew.refl _) rfl (fun h => by simp at h)
    refine GivesAll.cons (fun vs w1 g1 hd K hK => ?_) ?_
    · simp only [putsT, Nat.zero_add, Nat.reduceAdd, List.getD_cons_zero, List.getD_cons_succ, Act.put, List.setIfInBounds_toArray, List.set_cons_zero, List.set_cons_succ] at hK ⊢
      go_simp
      exact hK _ _ (Grew.refl _) rfl (fun h => by simp at h)
    refine GivesAll.cons (fun vs w1 g1 hd K hK => ?_) ?_
    · have e11 : vs 11 = .int .i64 (m : Nat) := hd 11 (by kernel_rfl)
      have e12 : vs 12 = .int .i64 (f : Nat) := hd 12 (by kernel_rfl)
      simp only [putsT, Nat.zero_add, Nat.reduceAdd, List.getD_cons_zero, List.getD_cons_succ, Act.put, List.setIfInBounds_toArray, List.set_cons_zero, List.set_cons_succ, e11, e12] at hK ⊢
      have c9 := hlost
      go_simp
      exact hK _ _ (Grew.refl _) rfl (fun h => by simp at h)
    refine GivesAll.cons (fun vs w1 g1 hd K hK => ?_) ?_
    · have r9 : Buf w1 (vs 9) (xs ++ zs) := hd 9 (by kernel_rfl)
      simp only [putsT, Nat.zero_add, Nat.reduceAdd, List.getD_cons_zero, List.getD_cons_succ, Act.put, List.setIfInBounds_toArray, List.set_cons_zero, List.set_cons_succ] at hK ⊢
      go_simp
      exact hK _ _ (Grew.refl _) rfl (fun h => by simp at h)
    refine GivesAll.cons (fun vs w1 g1 hd K hK => ?_) ?_
    · have e13 : vs 13 = .int .i64 (lost : Int) := hd 13 (by kernel_rfl)
      simp only [putsT, Nat.zero_add, Nat.reduceAdd, List.getD_cons_zero, List.getD_cons_succ, Act.put, List.setIfInBounds_toArray, List.set_cons_zero, List.set_cons_succ, e13] at hK ⊢
      go_simp
      exact hK _ _ (Grew.refl _) rfl (fun h => by simp at h)
    exact GivesAll.nil
  intro vs wz gz hv hap
  have e0 : vs 0 = .slice av n cv := hv 0 (by decide)
  have e1 : vs 1 = .slice av n cv := hv 1 (by decide)
  have e2 : vs 2 = .int .i64 (n : Nat) := hv 2 (by decide)
  have e3 : vs 3 = .slice av n cv := hv 3 (by decide)
  have e4 : vs 4 = .int .i64 (n : Nat) := hv 4 (by decide)
  have e5 : vs 5 = .slice av' n n := hv 5 (by decide)
  have e6 : vs 6 = .slice au m cu := hv 6 (by decide)
  have e7 : vs 7 = .int .i64 (f : Nat) := hv 7 (by decide)
  have e8 : vs 8 = .slice au' f cu' := hv 8 (by decide)
  have r9 : Buf wz (vs 9) (xs ++ zs) := hv 9 (by decide)
  have e10 : vs 10 = .slice au m cu := hv 10 (by decide)
  have e11 : vs 11 = .int .i64 (m : Nat) := hv 11 (by decide)
  have e12 : vs 12 = .int .i64 (f : Nat) := hv 12 (by decide)
  have e13 : vs 13 = .int .i64 (lost : Int) := hv 13 (by decide)
  have e14 : vs 14 = vs 9 := hv 14 (by decide)
  have e15 : vs 15 = .int .i64 (lost : Int) := hv 15 (by decide)
  clear hv hap
  simp only [putsT, Nat.zero_add, Nat.reduceAdd, List.getD_cons_zero, List.getD_cons_succ, Act.put, List.setIfInBounds_toArray, List.set_cons_zero, List.set_cons_succ, List.drop_succ_cons, List.drop_zero, e0, e1, e2, e3, e4, e5, e6, e7, e8, e10, e11, e12, e13, e14, e15]
  clear e0 e1 e2 e3 e4 e5 e6 e7 e8 e10 e11 e12 e13 e14 e15
  obtain ⟨ar, cr, er, _, _⟩ := r9.shape
  rw [er] at r9 ⊢
  go_wp2_with fail
  exact bodyPost_ret (v := .tuple #[.slice ar (xs ++ zs).length cr, .int .i64 lost]) (by simp [results, Try.results13, go_sem]) rfl ⟨ar, cr, rfl, Lib.hid r9, gz⟩
theorem behind_c {v u : Value} {xs ys : List Int} (most : Nat) (hm : most ≤ 4096) {w : World} (hV : Buf w v xs) (hU : Buf w u ys) (hl : xs.length + ys.length ≤ 140737488355328) :
    Calls Try.prog 13 #[v, u, .int .i64 most] w fun e w' => ∃ a c, e = .returned (.tuple #[.slice a (xs ++ ys.take (fitN xs.length ys.length most)).length c, .int .i64 ((ys.length : Int) - fitN xs.length ys.length most)]) ∧ Hid (Buf w' (.slice a (xs ++ ys.take (fitN xs.length ys.length most)).length c) (xs ++ ys.take (fitN xs.length ys.length most))) ∧ Grew w w' := by
  obtain ⟨a, c, rfl, hc, _⟩ := hV.shape
  obtain ⟨b, d, rfl, hd, _⟩ := hU.shape
  obtain ⟨a', hV', rF⟩ := hV.run_full
  have hf := fitN_le xs.length ys.length most
  obtain ⟨b', d', hU', _, _, rC, _⟩ := hU.run_cut (Nat.zero_le _) hf
  have e0 : cutL ys 0 (fitN xs.length ys.length most) = ys.take (fitN xs.length ys.length most) := by simp [cutL]
  rw [e0, Nat.sub_zero] at hU'
  simp only [Nat.sub_zero] at rC
  have hx : IntKind.i64.wrap ((most : Int) - (xs.length : Nat)) = (most : Int) - (xs.length : Nat) := IntWalk.i64_in _ (by omega)
  refine behind_in xs (ys.take (fitN xs.length ys.length most)) a a' b b' xs.length c ys.length d _ d' _ most ((most : Int) - (xs.length : Nat)) (if (most : Int) - (xs.length : Nat) < 0 then 0 else (most : Int) - (xs.length : Nat)) hV' hU' (by rw [List.length_take]; omega) rF (rC (by first | rfl | trivial)) hx (fun ts t w' => ?_) (fun ts t w' => ?_) (IntWalk.i64_in _ (by omega))
  · rw [run_max_int2]
    first | done | (congr 2; first | done | (split <;> split <;> omega))
  · rw [run_min_int2]
    congr 2
    unfold fitN
    split <;> split <;> omega
end Go.Proofs.Ytegncliegmknaaa
