/-
  A region that draws its order, whose operations may make memory: not order by order, but by what each operation gives. Of each operation one says what holds of its value (R, which growing worlds keep), and shows it once, at the frame in the text's order, out of what its own operands' operations gave. Whatever order is drawn, all of it holds in the end; then a forced tail.
-/
import Derived.Test.YtnafdgpkofffaaaDoorGrew
import Derived.Test.YtnafdgpkofffaaaDoorTail
set_option maxRecDepth 4000
set_option linter.unusedVariables false
set_option linter.unusedSimpArgs false
namespace Go.Proofs.YtnafdgpkofffaaaDoor
open Go

section
variable {P : Program} {ops : Array Oper} {md : Region.Mode}

/-- The values of the first m operations, put in the text's order. -/
def putsT (ds : List (Option Tmp)) (vs : Nat → Value) (a : Act) : Nat → Act
  | 0 => a
  | m + 1 => (putsT ds vs a m).put (ds.getD m none) (vs m)
/-- The values of those of the first m that are listed. -/
def putsS (ds : List (Option Tmp)) (vs : Nat → Value) (a : Act) (listed : Array Bool) : Nat → Act
  | 0 => a
  | m + 1 => if listed.getD m false = true then (putsS ds vs a listed m).put (ds.getD m none) (vs m) else putsS ds vs a listed m
def waitsB (md : Region.Mode) (o : Oper) (j : Nat) : Bool := o.after.any fun e => Region.binds md e && e.on == j
/-- The head's operations look only at what they wait for; each writes a slot of its own; they stand behind what they wait for. -/
def headB (md : Region.Mode) (ops : Array Oper) (ds : List (Option Tmp)) (n : Nat) : Bool :=
  (List.range n).all fun i => match ops[i]? with
    | none => false
    | some oi => oi.dst == ds.getD i none && (oi.after.all fun e => !Region.binds md e || decide (e.on < i)) && (List.range n).all fun j => j == i || match ds.getD j none with
      | none => true
      | some d => (!(oi.looksAt ops).contains d || (decide (j < i) && waitsB md oi j)) && oi.dst != some d
structure HeadOk (md : Region.Mode) (ops : Array Oper) (ds : List (Option Tmp)) (n : Nat) : Prop where
  some : ∀ i, i < n → ∃ o, ops[i]? = some o ∧ o.dst = ds.getD i none
  after : ∀ i o, i < n → ops[i]? = .some o → ∀ e ∈ o.after, Region.binds md e = true → e.on < i
  looks : ∀ i j o d, i < n → j < n → j ≠ i → ops[i]? = .some o → ds.getD j none = .some d → (d ∈ o.looksAt ops → j < i ∧ waitsB md o j = true) ∧ o.dst ≠ .some d
theorem headOk {ds : List (Option Tmp)} {n : Nat} (h : headB md ops ds n = true) : HeadOk md ops ds n := by
  have key : ∀ i, i < n → ∃ oi, ops[i]? = some oi ∧ oi.dst = ds.getD i none ∧ (∀ e ∈ oi.after, Region.binds md e = true → e.on < i) ∧ ∀ j, j < n → j ≠ i → ∀ d, ds.getD j none = some d → (d ∈ oi.looksAt ops → j < i ∧ waitsB md oi j = true) ∧ oi.dst ≠ some d := fun i hi => by
    have h1 := List.all_eq_true.1 h i (List.mem_range.2 hi)
    cases ho : ops[i]? with
    | none => simp [ho] at h1
    | some oi =>
      simp only [ho, Bool.and_eq_true, beq_iff_eq] at h1
      refine ⟨oi, rfl, h1.1.1, fun e he hb => ?_, fun j hj hne d hd => ?_⟩
      · have := Array.all_eq_true_iff_forall_mem.1 h1.1.2 e he
        simpa [hb] using this
      · have := List.all_eq_true.1 h1.2 j (List.mem_range.2 hj)
        rw [hd] at this
        have hne' : (j == i) = false := by simpa using hne
        simp only [hne', Bool.false_or, Bool.and_eq_true, Bool.or_eq_true, Bool.not_eq_true', decide_eq_true_eq, bne_iff_ne, ne_eq] at this
        refine ⟨fun hm => ?_, this.2⟩
        rcases this.1 with h2 | h2
        · have : (oi.looksAt ops).contains d = true := by simpa using hm
          rw [h2] at this; cases this
        · exact h2
  refine ⟨fun i hi => ?_, fun i o hi ho => ?_, fun i j o d hi hj hne ho hd => ?_⟩
  · obtain ⟨oi, h1, h2, _⟩ := key i hi; exact ⟨oi, h1, h2⟩
  · obtain ⟨oi, h1, _, h3, _⟩ := key i hi
    obtain rfl : oi = o := Option.some.inj (h1.symm.trans ho)
    exact h3
  · obtain ⟨oi, h1, _, _, h4⟩ := key i hi
    obtain rfl : oi = o := Option.some.inj (h1.symm.trans ho)
    exact h4 j hj hne d hd

theorem put_size (a : Act) (d : Option Tmp) (v : Value) : (a.put d v).tmps.size = a.tmps.size := by cases d <;> simp [Act.put]
theorem putsT_size (ds : List (Option Tmp)) (vs : Nat → Value) (a : Act) (m : Nat) : (putsT ds vs a m).tmps.size = a.tmps.size := by
  induction m with
  | zero => rfl
  | succ m ih => rw [putsT, put_size, ih]
theorem putsS_size (ds : List (Option Tmp)) (vs : Nat → Value) (a : Act) (listed : Array Bool) (m : Nat) : (putsS ds vs a listed m).tmps.size = a.tmps.size := by
  induction m with
  | zero => rfl
  | succ m ih => rw [putsS]; split; rw [put_size, ih]; exact ih
theorem put_get_ne {a : Act} {d : Option Tmp} {v : Value} {t : Tmp} (h : d ≠ some t) : (a.put d v).tmps[t]? = a.tmps[t]? := by
  cases d with
  | none => rfl
  | some d =>
    have : d ≠ t := fun e => h (by rw [e])
    simp [Act.put, Array.getElem?_setIfInBounds_ne this]
theorem put_get_same {a b : Act} {d : Option Tmp} {v : Value} {t : Tmp} (hs : a.tmps.size = b.tmps.size) (h : a.tmps[t]? = b.tmps[t]?) : (a.put d v).tmps[t]? = (b.put d v).tmps[t]? := by
  cases d with
  | none => exact h
  | some d =>
    by_cases e : d = t
    · subst e; simp [Act.put, Array.getElem?_setIfInBounds, hs]
    · simp [Act.put, Array.getElem?_setIfInBounds_ne e, h]
/-- What an operation looks at reads alike. -/
theorem agree {ds : List (Option Tmp)} {n i : Nat} {o : Oper} {listed : Array Bool} (H : HeadOk md ops ds n) (hi : i < n) (ho : ops[i]? = some o) (hun : listed.getD i false = false) (hl : ∀ j, waitsB md o j = true → listed.getD j false = true) (vs : Nat → Value) (a : Act) {t : Tmp} (ht : t ∈ o.looksAt ops) :
    ∀ m, m ≤ n → (putsS ds vs a listed m).tmps[t]? = (putsT ds vs a (min m i)).tmps[t]?
  | 0, _ => by simp [putsS, putsT]
  | m + 1, hm => by
    have ih := agree H hi ho hun hl vs a ht m (by omega)
    rw [putsS]
    by_cases hmi : m < i
    · rw [show min (m + 1) i = m + 1 by omega, putsT]
      rw [show min m i = m by omega] at ih
      split
      · exact put_get_same (by rw [putsS_size, putsT_size]) ih
      · rename_i hnl
        rw [put_get_ne, ih]
        intro hd
        exact hnl (hl m ((H.looks i m o t hi (by omega) (by omega) ho hd).1 ht).2)
    · rw [show min (m + 1) i = i by omega]
      rw [show min m i = i by omega] at ih
      split
      · rename_i hyl
        rw [put_get_ne, ih]
        intro hd
        by_cases e : m = i
        · subst e; rw [hun] at hyl; cases hyl
        · have := ((H.looks i m o t hi (by omega) e ho hd).1 ht).1
          omega
      · exact ih
theorem exec_agree {o : Oper} {a b : Act} (hs : ∀ cs d, o.op ≠ .select cs d) (h : ∀ t ∈ o.looksAt ops, a.tmps[t]? = b.tmps[t]?) : execOp a.eval o = execOp b.eval o :=
  execOp_congr o hs fun x hx => by
    cases x with
    | tmp t =>
      have := h t (List.mem_append_left _ (List.mem_filterMap.2 ⟨.tmp t, by simpa using hx, rfl⟩))
      simp [Act.eval, this]
    | _ => rfl
theorem wanted_agree {o : Oper} {a b : Act} (h : ∀ t ∈ o.looksAt ops, a.tmps[t]? = b.tmps[t]?) : Region.wanted o (yielded ops a.tmps) = Region.wanted o (yielded ops b.tmps) := by
  unfold Region.wanted
  cases hg : o.guard with
  | none => rfl
  | some gw =>
    obtain ⟨g, want⟩ := gw
    have hy : yielded ops a.tmps g = yielded ops b.tmps g := by
      unfold yielded
      cases ht : (ops[g]?).bind (·.dst) with
      | none => rfl
      | some t =>
        have := h t (by simp [Oper.looksAt, hg, ht])
        simp [this]
    simp only [hy]
theorem putsS_below (ds : List (Option Tmp)) (vs : Nat → Value) (a : Act) (listed : Array Bool) (i : Nat) (v : Value) : ∀ m, m ≤ i → putsS ds (fun j => if j = i then v else vs j) a (listed.setIfInBounds i true) m = putsS ds vs a listed m
  | 0, _ => rfl
  | m + 1, hm => by
    rw [putsS, putsS, putsS_below ds vs a listed i v m (by omega), getD_set_ne false (by omega)]
    simp only [if_neg (show m ≠ i by omega)]
theorem putsS_add {ds : List (Option Tmp)} {n i : Nat} {listed : Array Bool} (H : HeadOk md ops ds n) (hi : i < n) (hun : listed.getD i true = false) (vs : Nat → Value) (a : Act) (v : Value) :
    ∀ m, i < m → m ≤ n → putsS ds (fun j => if j = i then v else vs j) a (listed.setIfInBounds i true) m = (putsS ds vs a listed m).put (ds.getD i none) v
  | m + 1, him, hmn => by
    rw [putsS, putsS]
    by_cases e : m = i
    · subst e
      have hin : m < listed.size := by
        rcases Nat.lt_or_ge m listed.size with h | h
        · exact h
        · simp [Array.getElem?_eq_none h] at hun
      have h1 : (listed.setIfInBounds m true).getD m false = true := by simp [hin]
      have h2 := getD_both hun
      rw [if_pos h1, h2, putsS_below ds vs a listed m v m (Nat.le_refl _)]
      simp
    · rw [putsS_add H hi hun vs a v m (by omega) (by omega), getD_set_ne false (by omega)]
      simp only [if_neg e]
      split
      · obtain ⟨o, ho, hd⟩ := H.some m (by omega)
        exact Act.put_comm _ _ _ fun d hdi => by
          have := (H.looks m i o d (by omega) hi (fun h => e h.symm) ho hdi).2
          rwa [hd] at this
      · rfl

theorem put_inj {a b : Act} (hs : a.tmps.size = b.tmps.size) {d : Option Tmp} {v v' : Value} (h : b.put d v = b.put d v') : a.put d v = a.put d v' := by
  cases d with
  | none => rfl
  | some d =>
    by_cases hd : d < b.tmps.size
    · have h1 : (b.put (some d) v).tmps[d]? = (b.put (some d) v').tmps[d]? := by rw [h]
      simp [Act.put, hd] at h1
      rw [h1]
    · have : ∀ u, a.put (some d) u = a := fun u => by
        have : ¬ d < a.tmps.size := fun h => hd (hs ▸ h)
        simp [Act.put, Array.setIfInBounds, this]
      rw [this, this]
theorem wp_move {o : Oper} {a b : Act} {w : World} {K : Value → World → Prop} {Q : Exit → Act → World → Prop} (he : execOp a.eval o = execOp b.eval o) (hs : a.tmps.size = b.tmps.size)
    (h : o.wp P b w (fun b' w' => ∃ v, b' = b.put o.dst v ∧ K v w') (fun _ _ _ => False)) : o.wp P a w (fun a' w' => ∃ v, a' = a.put o.dst v ∧ K v w') Q := by
  unfold Oper.wp at *
  rw [he]
  have mv : ∀ v w', (∃ v', b.put o.dst v = b.put o.dst v' ∧ K v' w') → ∃ v', a.put o.dst v = a.put o.dst v' ∧ K v' w' := fun v w' ⟨v', e, k⟩ => ⟨v', put_inj hs e, k⟩
  generalize (execOp b.eval o).run P w = r at *
  cases r with
  | ok n w' =>
    cases n <;> simp only [Oper.upon] at h ⊢
    case value u => exact mv _ _ h
    case skip => exact mv _ _ h
    case defer d =>
      obtain ⟨v, e, _⟩ := h
      have hd := congrArg Act.defers e
      have : ∀ (x : Act) (t : Option Tmp) (u : Value), (x.put t u).defers = x.defers := fun x t u => by cases t <;> rfl
      rw [this, this] at hd
      exact absurd (congrArg List.length hd) (by simp)
    case enter f args =>
      refine h.mono fun e w'' he => ?_
      cases e with
      | returned v => exact mv _ _ he
      | panicked c => exact (he : False).elim
      | outgrown => obtain ⟨_, _, hf⟩ := he; exact hf.elim
    all_goals exact Rows.mono h fun v w'' he => mv _ _ he
  | halt x w' => cases x <;> simp only [Oper.upon] at h ⊢

/-- The block that a value leads to, if it leads to any cell. -/
def leadsTo : Value → Option Nat
  | .slice (some a) (_ + 1) _ => some a.block
  | .pointer (some a) => some a.block
  | _ => none
/-- Two values lead to no block both. -/
def Apart (v u : Value) : Prop := ∀ g, leadsTo v = some g → leadsTo u ≠ some g
theorem Apart.symm {v u : Value} (h : Apart v u) : Apart u v := fun g h1 h2 => h g h2 h1

/-- What the head's operations give: of number i, out of what it waits for, at the frame in the text's order. -/
def Gives (P : Program) (md : Region.Mode) (ops : Array Oper) (ds : List (Option Tmp)) (W : World) (R : (Nat → Value) → Nat → Value → World → Prop) (mk : List Nat) (a : Act) (i : Nat) (o : Oper) : Prop :=
  ∀ (vs : Nat → Value) (w : World), Grew W w → (∀ j, waitsB md o j = true → R vs j (vs j) w) →
    ∀ K : Act → World → Prop, (∀ v w', Grew w w' → R vs i v w' → (mk.contains i = true → ∀ g, leadsTo v = some g → w.heap.size ≤ g) → K ((putsT ds vs a i).put o.dst v) w') →
      if Region.wanted o (yielded ops (putsT ds vs a i).tmps) = true then Oper.wp P o (putsT ds vs a i) w K (fun _ _ _ => False) else K ((putsT ds vs a i).put o.dst undef) w
def GivesAll (P : Program) (md : Region.Mode) (ops : Array Oper) (ds : List (Option Tmp)) (W : World) (R : (Nat → Value) → Nat → Value → World → Prop) (mk : List Nat) (a : Act) : Nat → List Oper → Prop
  | _, [] => True
  | i, o :: l => Gives P md ops ds W R mk a i o ∧ GivesAll P md ops ds W R mk a (i + 1) l
theorem GivesAll.nil {ds : List (Option Tmp)} {W : World} {R : (Nat → Value) → Nat → Value → World → Prop} {mk : List Nat} {a : Act} {i : Nat} : GivesAll P md ops ds W R mk a i [] := trivial
theorem GivesAll.cons {ds : List (Option Tmp)} {W : World} {R : (Nat → Value) → Nat → Value → World → Prop} {mk : List Nat} {a : Act} {i : Nat} {o : Oper} {l : List Oper}
    (h : ∀ (vs : Nat → Value) (w : World), Grew W w → (∀ j, waitsB md o j = true → R vs j (vs j) w) →
      ∀ K : Act → World → Prop, (∀ v w', Grew w w' → R vs i v w' → (mk.contains i = true → ∀ g, leadsTo v = some g → w.heap.size ≤ g) → K ((putsT ds vs a i).put o.dst v) w') →
        if Region.wanted o (yielded ops (putsT ds vs a i).tmps) = true then Oper.wp P o (putsT ds vs a i) w K (fun _ _ _ => False) else K ((putsT ds vs a i).put o.dst undef) w)
    (h2 : GivesAll P md ops ds W R mk a (i + 1) l) : GivesAll P md ops ds W R mk a i (o :: l) := ⟨h, h2⟩
theorem GivesAll.at {ds : List (Option Tmp)} {W : World} {R : (Nat → Value) → Nat → Value → World → Prop} {mk : List Nat} {a : Act} (l : List Oper) : ∀ k, GivesAll P md ops ds W R mk a k l → ∀ j o, l[j]? = some o → Gives P md ops ds W R mk a (k + j) o := by
  induction l with
  | nil => intro k _ j o ho; simp at ho
  | cons x l ih =>
    intro k h j o ho
    unfold GivesAll at h
    cases j with
    | zero =>
      have e : x = o := by simpa using ho
      rw [← e]
      exact h.1
    | succ j =>
      have := ih (k + 1) h.2 j o (by simpa using ho)
      rwa [show k + (j + 1) = k + 1 + j by omega]

/-- How many of the first m are not listed. -/
def leftOf (listed : Array Bool) : Nat → Nat
  | 0 => 0
  | m + 1 => leftOf listed m + if listed.getD m false = true then 0 else 1
theorem leftOf_set {listed : Array Bool} {i : Nat} (hun : listed.getD i true = false) : ∀ m, leftOf (listed.setIfInBounds i true) m + (if i < m then 1 else 0) = leftOf listed m
  | 0 => by simp [leftOf]
  | m + 1 => by
    have ih := leftOf_set hun m
    rw [leftOf, leftOf]
    by_cases e : i = m
    · subst e
      have hin : i < listed.size := by
        rcases Nat.lt_or_ge i listed.size with h | h
        · exact h
        · simp [Array.getElem?_eq_none h] at hun
      have h1 : (listed.setIfInBounds i true).getD i false = true := by simp [hin]
      have h2 : ¬ (listed.getD i false = true) := by rw [getD_both hun]; simp
      rw [if_pos h1, if_neg h2, if_pos (show i < i + 1 by omega)]
      rw [if_neg (show ¬ i < i by omega)] at ih
      omega
    · rw [getD_set_ne false e]
      by_cases h : i < m
      · rw [if_pos (show i < m + 1 by omega)]; rw [if_pos h] at ih; omega
      · rw [if_neg (show ¬ i < m + 1 by omega)]; rw [if_neg h] at ih; omega
theorem leftOf_zero {listed : Array Bool} : ∀ {m}, leftOf listed m = 0 → ∀ j, j < m → listed.getD j false = true
  | m + 1, h, j, hj => by
    rw [leftOf] at h
    by_cases e : j = m
    · subst e
      by_cases h' : listed.getD j false = true
      · exact h'
      · rw [if_neg h'] at h; omega
    · exact leftOf_zero (m := m) (by omega) j (by omega)
theorem leftOf_pos {listed : Array Bool} : ∀ {m}, leftOf listed m ≠ 0 → ∃ j, j < m ∧ listed.getD j false = false ∧ ∀ k, k < j → listed.getD k false = true
  | m + 1, h => by
    by_cases h0 : leftOf listed m = 0
    · have := leftOf_zero h0
      rw [leftOf, h0] at h
      refine ⟨m, by omega, ?_, this⟩
      cases hb : listed.getD m false
      · rfl
      · rw [if_pos hb] at h; omega
    · obtain ⟨j, hj, h1, h2⟩ := leftOf_pos h0
      exact ⟨j, by omega, h1, h2⟩

/-- What is said of a value speaks of no other values but of those that it waited for. -/
def depsB (md : Region.Mode) (ops : Array Oper) (dl : List (List Nat)) (n : Nat) : Bool :=
  (List.range n).all fun j => match ops[j]? with
    | none => false
    | some o => (dl.getD j []).all fun k => waitsB md o k
theorem depsB_spec {dl : List (List Nat)} {n : Nat} (h : depsB md ops dl n = true) {j : Nat} (hj : j < n) {o : Oper} (ho : ops[j]? = some o) : ∀ k ∈ dl.getD j [], waitsB md o k = true := by
  have := List.all_eq_true.1 h j (List.mem_range.2 hj)
  rw [ho] at this
  exact fun k hk => List.all_eq_true.1 this k hk

/-- The head is through, the tail's operations stand open, one behind the other. -/
def tailB (md : Region.Mode) (ops : Array Oper) (n : Nat) : Bool :=
  decide (n ≤ ops.size) && (decide (n = ops.size) || (Region.sinkB md ops n && Region.chainB md ops n)) && Region.seqB md ops (ops.size - n) n (Array.replicate n true ++ Array.replicate (ops.size - n) false)

theorem deps_any {ds : List (Option Tmp)} {dl : List (List Nat)} {n g : Nat} {W : World} {R : (Nat → Value) → Nat → Value → World → Prop} {mk : List Nat} {Q : Exit → Act → World → Prop} {a0 : Act} (H : HeadOk md ops ds n) (hsel : Region.noSelect ops = true) (hn : n ≤ ops.size)
    (ht : n = ops.size ∨ (Region.sinkB md ops n = true ∧ Region.chainB md ops n = true))
    (hR : ∀ vs j v w w', Grew w w' → R vs j v w → R vs j v w') (hmk : ∀ vs j v w, mk.contains j = true → R vs j v w → ∀ g, leadsTo v = some g → g < w.heap.size)
    (hdl : depsB md ops dl n = true) (hloc : ∀ vs vs' j v w, (∀ k ∈ dl.getD j [], vs k = vs' k) → R vs j v w → R vs' j v w)
    (hG : ∀ i o, i < n → ops[i]? = some o → Gives P md ops ds W R mk a0 i o)
    (hend : ∀ (vs : Nat → Value) (listed : Array Bool) (w : World), listed.size = ops.size → (∀ j, j < n → listed.getD j false = true) → (∀ t, n ≤ t → t < ops.size → listed.getD t true = false) → Grew W w → (∀ j, j < n → R vs j (vs j) w) → (∀ i j, i < n → j < n → i ≠ j → mk.contains i = true → mk.contains j = true → Apart (vs i) (vs j)) → wpAny P md ops Q g listed (putsS ds vs a0 listed n) w) :
    ∀ (f : Nat) (listed : Array Bool) (vs : Nat → Value) (w : World), leftOf listed n = f → HeadInv md ops n listed → Grew W w → (∀ j, j < n → listed.getD j false = true → R vs j (vs j) w) → (∀ i j, i < n → j < n → i ≠ j → listed.getD i false = true → listed.getD j false = true → mk.contains i = true → mk.contains j = true → Apart (vs i) (vs j)) → wpAny P md ops Q (f + g) listed (putsS ds vs a0 listed n) w
  | 0, listed, vs, w, hf, inv, hg, hv, ha => by
    rw [Nat.zero_add]
    have hall := leftOf_zero hf
    exact hend vs listed w inv.size hall inv.tail hg (fun j hj => hv j hj (hall j hj)) (fun i j hi hj hne => ha i j hi hj hne (hall i hi) (hall j hj))
  | f + 1, listed, vs, w, hf, inv, hg, hv, ha => by
    rw [Nat.add_right_comm]
    obtain ⟨j0, hj0, hu0, hb0⟩ := leftOf_pos (listed := listed) (m := n) (by omega)
    have hsz := inv.size
    have hlt0 : j0 < listed.size := by omega
    have hu0' : listed.getD j0 true = false := getD_in hlt0 hu0
    have htail : ∀ t, n ≤ t → t ∉ Region.ready md ops listed := fun t hnt hr => by
      rcases ht with e | ⟨hs, hc⟩
      · obtain ⟨_, o, ho, _⟩ := mem_ready.1 hr
        have := (Array.getElem?_eq_some_iff.1 ho).1
        omega
      · by_cases hlt : n < ops.size
        · exact tail_waits hs hc hlt inv _ j0 rfl hj0 hu0' t hnt hr
        · obtain ⟨_, o, ho, _⟩ := mem_ready.1 hr
          have := (Array.getElem?_eq_some_iff.1 ho).1
          omega
    refine ⟨fun h0 => ?_, fun i hi => ?_⟩
    · obtain ⟨o, ho, _⟩ := H.some j0 hj0
      have : j0 ∈ Region.ready md ops listed := mem_ready.2 ⟨hu0', o, ho, fun e he hb => hb0 _ (H.after j0 o hj0 ho e he hb)⟩
      rw [h0] at this; cases this
    · have hin : i < n := Nat.lt_of_not_le fun h => htail i h hi
      obtain ⟨hun, o, ho, hall⟩ := mem_ready.1 hi
      have hun' := getD_both hun
      have hw8 : ∀ j, waitsB md o j = true → listed.getD j false = true := fun j hj => by
        obtain ⟨e, he, hb⟩ := Array.any_eq_true'.1 hj
        simp only [Bool.and_eq_true, beq_iff_eq] at hb
        rw [← hb.2]; exact hall e he hb.1
      have hbelow : ∀ j, waitsB md o j = true → j < i := fun j hj => by
        obtain ⟨e, he, hb⟩ := Array.any_eq_true'.1 hj
        simp only [Bool.and_eq_true, beq_iff_eq] at hb
        rw [← hb.2]; exact H.after i o hin ho e he hb.1
      have hag : ∀ t ∈ o.looksAt ops, (putsS ds vs a0 listed n).tmps[t]? = (putsT ds vs a0 i).tmps[t]? := fun t ht' => by
        have := agree H hin ho hun' hw8 vs a0 ht' n (Nat.le_refl _)
        rwa [show min n i = i by omega] at this
      have hG' := hG i o hin ho vs w hg (fun j hj => hv j (by have := hbelow j hj; omega) (hw8 j hj)) (fun b' w' => ∃ v, b' = (putsT ds vs a0 i).put o.dst v ∧ (Grew w w' ∧ R vs i v w' ∧ (mk.contains i = true → ∀ g, leadsTo v = some g → w.heap.size ≤ g))) (fun v w' h1 h2 h3 => ⟨v, rfl, h1, h2, h3⟩)
      obtain ⟨o', ho', hd'⟩ := H.some i hin
      obtain rfl : o' = o := Option.some.inj (ho'.symm.trans ho)
      have next : ∀ v w', Grew w w' → R vs i v w' → (mk.contains i = true → ∀ g, leadsTo v = some g → w.heap.size ≤ g) → wpAny P md ops Q (f + g) (listed.setIfInBounds i true) ((putsS ds vs a0 listed n).put o'.dst v) w' := fun v w' g1 r1 fr => by
        have e := putsS_add H hin hun vs a0 v n hin (Nat.le_refl _)
        rw [hd', ← e]
        have new : ∀ j, j < n → j ≠ i → listed.getD j false = true → mk.contains i = true → mk.contains j = true → Apart v (vs j) := fun j hj hne hl h1 h2 g e1 e2 => by
          have := fr h1 g e1
          have := hmk vs j (vs j) w h2 (hv j hj hl) g e2
          omega
        refine deps_any H hsel hn ht hR hmk hdl hloc hG hend f _ _ w' ?_ (inv.set hi hin) (hg.trans g1) (fun j hj hl => ?_) (fun j k hj hk hne hlj hlk hmj hmk' => ?_)
        · have := leftOf_set hun n
          rw [if_pos hin] at this
          omega
        · by_cases e : j = i
          · subst e
            simp only [if_true]
            refine hloc _ _ _ _ _ (fun k hk => ?_) r1
            have hw := depsB_spec hdl hin ho k hk
            have := hw8 k hw
            rw [if_neg]
            intro he
            subst he
            rw [hun'] at this; cases this
          · simp only [if_neg e]
            rw [getD_set_ne false (fun h => e h.symm)] at hl
            refine hloc vs _ _ _ _ (fun k hk => ?_) ?_
            · obtain ⟨oj, hoj, _⟩ := H.some j hj
              have hw := depsB_spec hdl hj hoj k hk
              obtain ⟨e', he', hb'⟩ := Array.any_eq_true'.1 hw
              simp only [Bool.and_eq_true, beq_iff_eq] at hb'
              have := inv.closed j oj hoj hl e' he' hb'.1
              rw [hb'.2] at this
              rw [if_neg]
              intro he
              subst he
              rw [hun'] at this; cases this
            exact hR _ _ _ _ _ g1 (hv j hj hl)
        · by_cases ej : j = i
          · subst ej
            simp only [if_neg (fun h : k = j => hne h.symm)]
            rw [getD_set_ne false hne] at hlk
            simpa using new k hk (fun h => hne h.symm) hlk hmj hmk'
          · rw [getD_set_ne false (fun h => ej h.symm)] at hlj
            by_cases ek : k = i
            · subst ek
              simpa [ej] using (new j hj ej hlj hmk' hmj).symm
            · rw [getD_set_ne false (fun h => ek h.symm)] at hlk
              simp only [if_neg ej, if_neg ek]
              exact ha j k hj hk hne hlj hlk hmj hmk'
      unfold wpOp
      rw [ho]
      show if Region.wanted o' (yielded ops (putsS ds vs a0 listed n).tmps) = true then _ else _
      rw [wanted_agree hag]
      split
      · rename_i hwt
        rw [if_pos hwt] at hG'
        refine .inl (Oper.wp_mono (fun a' w' ⟨v, e, g1, r1, f1⟩ => ?_) (wp_move (a := putsS ds vs a0 listed n) (K := fun v w' => Grew w w' ∧ R vs i v w' ∧ (mk.contains i = true → ∀ g, leadsTo v = some g → w.heap.size ≤ g)) (exec_agree (Region.noSelect_spec hsel i o' · · ho) hag) (by rw [putsS_size, putsT_size]) hG'))
        rw [e]; exact next v w' g1 r1 f1
      · rename_i hwt
        rw [if_neg hwt] at hG'
        obtain ⟨v, e, g1, r1, f1⟩ := hG'
        rw [put_inj (a := putsS ds vs a0 listed n) (by rw [putsS_size, putsT_size]) e]
        exact next v w g1 r1 f1

theorem putsS_all {ds : List (Option Tmp)} {vs : Nat → Value} {a : Act} {listed : Array Bool} : ∀ {m}, (∀ j, j < m → listed.getD j false = true) → putsS ds vs a listed m = putsT ds vs a m
  | 0, _ => rfl
  | m + 1, h => by rw [putsS, if_pos (h m (by omega)), putsS_all fun j hj => h j (by omega)]; rfl
theorem listed_is {listed : Array Bool} {n s : Nat} (hn : n ≤ s) (hs : listed.size = s) (h1 : ∀ j, j < n → listed.getD j false = true) (h2 : ∀ t, n ≤ t → t < s → listed.getD t true = false) : listed = Array.replicate n true ++ Array.replicate (s - n) false := by
  apply Array.ext
  · simp; omega
  · intro i hi hi'
    by_cases h : i < n
    · have := h1 i h
      simp [hi] at this
      simp [Array.getElem_append, h, this]
    · have := h2 i (by omega) (by omega)
      simp [hi] at this
      simp [Array.getElem_append, h, this]

/-- n operations in whatever order, then the rest, forced. -/
theorem region_deps {id : Nat} {Q : Exit → Act → World → Prop} {a : Act} {w W : World} {l : List Oper} (n : Nat) (ds : List (Option Tmp)) (dl : List (List Nat)) (mk : List Nat) (R : (Nat → Value) → Nat → Value → World → Prop)
    (hR : ∀ vs j v w w', Grew w w' → R vs j v w → R vs j v w') (hmk : ∀ vs j v w, mk.contains j = true → R vs j v w → ∀ g, leadsTo v = some g → g < w.heap.size) (hloc : ∀ vs vs' j v w, (∀ k ∈ dl.getD j [], vs k = vs' k) → R vs j v w → R vs' j v w) (hg : Grew W w) (hm : P.follows .mixedOrders = true)
    (hB : (Region.noSelect l.toArray && headB .any l.toArray ds n && tailB .any l.toArray n && depsB .any l.toArray dl n) = true)
    (hG : GivesAll P .any l.toArray ds W R mk a 0 (l.take n))
    (hend : ∀ (vs : Nat → Value) (w1 : World), Grew W w1 → (∀ j, j < n → R vs j (vs j) w1) → (∀ i j, i < n → j < n → i ≠ j → mk.contains i = true → mk.contains j = true → Apart (vs i) (vs j)) → wpList P l.toArray Q (l.drop n) (putsT ds vs a n) w1) : (Code.region id l.toArray true).wp P Q a w := by
  simp only [Bool.and_eq_true] at hB
  obtain ⟨⟨⟨hsel, hh⟩, htl⟩, hdl⟩ := hB
  have H := headOk hh
  simp only [tailB, Bool.and_eq_true, decide_eq_true_eq, Bool.or_eq_true] at htl
  obtain ⟨⟨hn, ht⟩, hseq⟩ := htl
  have hsz : l.toArray.size = l.length := by simp
  have none0 : ∀ j, (Array.replicate l.toArray.size false).getD j false = false := getD_replicate_false _
  have inv : HeadInv .any l.toArray n (Array.replicate l.toArray.size false) := ⟨by simp, fun j _ _ hl => absurd hl (by rw [none0]; exact Bool.noConfusion), fun t _ h' => getD_in (by simpa using h') (none0 t)⟩
  have hleft : ∀ m, leftOf (Array.replicate l.toArray.size false) m = m := fun m => by
    induction m with
    | zero => rfl
    | succ m ih => rw [leftOf, ih, none0]; rfl
  have hputs : ∀ m, putsS ds (fun _ => undef) a (Array.replicate l.toArray.size false) m = a := fun m => by
    induction m with
    | zero => rfl
    | succ m ih => rw [putsS, none0, ih]; rfl
  have := deps_any (P := P) (g := l.toArray.size - n) (Q := Q) (a0 := a) (mk := mk) H hsel hn ht hR hmk hdl hloc
    (fun i o hi ho => by
      have := GivesAll.at _ _ hG i o (by rw [List.getElem?_take_of_lt hi]; simpa using ho)
      rwa [Nat.zero_add] at this)
    (fun vs listed w1 hs1 h1 h2 g1 r1 ap => by
      rw [putsS_all h1]
      have e := listed_is hn hs1 h1 h2
      have := wpAny_of_seq (md := .any) (Q' := Q) (l.drop n) n listed (putsT ds vs a n) w1 (fun j => by simp [List.getElem?_drop]) (by rw [e, show (l.drop n).length = l.toArray.size - n by simp]; exact hseq) (hend vs w1 g1 r1 ap)
      rwa [show (l.drop n).length = l.toArray.size - n by simp] at this)
    n (Array.replicate l.toArray.size false) (fun _ => undef) { w with drawn := w.drawn + 1 } (hleft n) inv hg.drew1 (fun j _ hl => by rw [none0] at hl; cases hl) (fun i j _ _ _ hl => by rw [none0] at hl; cases hl)
  rw [hputs, show n + (l.toArray.size - n) = l.toArray.size by omega] at this
  exact wp_region_any hm this
end
end Go.Proofs.YtnafdgpkofffaaaDoor
