/-
  Questions for names, as lists of bytes.
-/
import Derived.Test.YtnafdgpkofffaaaDoorStr
import Derived.Test.YtnafdgpkofffaaaDoorPutG
import Derived.Test.YtnafdgpkofffaaaDoorKept
import Derived.Test.YtnafdgpkofffaaaDoorStep
import Derived.Test.YtnafdgpkofffaaaDoorZerB
set_option maxRecDepth 4000
set_option linter.unusedVariables false
set_option linter.unusedSimpArgs false
namespace Go.Proofs.YtnafdgpkofffaaaDoor
open Go.RowKit

/-- A byte of a label, as a small one; is it one? -/
def letV (c : Int) : Int × Bool := if 65 ≤ c ∧ c ≤ 90 then (c + 32, true) else (c, decide ((97 ≤ c ∧ c ≤ 122) ∨ (48 ≤ c ∧ c ≤ 57) ∨ c = 45 ∨ c = 95))
/-- A label of n bytes: its small letters; 160 if it ends too soon, 161 of another byte. -/
def labF : Nat → List Int → List Int × Int
  | 0, _ => ([], 0)
  | _ + 1, [] => ([], 160)
  | k + 1, c :: r => if (letV c).2 = false then ([], 161) else ((letV c).1 :: (labF k r).1, (labF k r).2)
/-- What stands ahead of a label. -/
def dotV (T : List Int) : List Int := if T = [] then [] else T ++ [46]
/-- Labels from byte k on, T the text so far: the text, where they end, what is wrong. -/
def namF (b : List Int) (p : Nat) : Nat → Nat → List Int → List Int × Int × Int
  | 0, _, _ => ([], 0, 160)
  | f + 1, k, T =>
    if ¬ k < b.length then ([], 0, 160)
    else if b.getD k 0 = 0 then (T, (k : Int) + 1, 0)
    else if 63 < b.getD k 0 then ([], 0, 161)
    else if (labF (b.getD k 0).toNat (b.drop (k + 1))).2 ≠ 0 then ([], 0, (labF (b.getD k 0).toNat (b.drop (k + 1))).2)
    else if 255 < (k : Int) + 1 + b.getD k 0 - p + 1 then ([], 0, 161)
    else namF b p f (k + 1 + (b.getD k 0).toNat) (dotV T ++ (labF (b.getD k 0).toNat (b.drop (k + 1))).1)
def namV (b : List Int) (p : Nat) : List Int × Int × Int := namF b p (b.length + 1) p []
/-- The name, the kind, where it ends, what is wrong. -/
def qsV (b : List Int) : List Int × Int × Int × Int :=
  if b.length < 12 then ([], 0, 0, 160) else if getV (cutL b 4 6) true ≠ 1 then ([], 0, 0, 161)
  else if (namV b 12).2.2 ≠ 0 then ([], 0, 0, (namV b 12).2.2)
  else if (b.length : Int) < (namV b 12).2.1 + 4 then ([], 0, 0, 160)
  else ((namV b 12).1, getV (cutL b (namV b 12).2.1.toNat ((namV b 12).2.1.toNat + 2)) true, (namV b 12).2.1 + 4, 0)
theorem letV_lt {c : Int} (h : 0 ≤ c ∧ c < 256) : 0 ≤ (letV c).1 ∧ (letV c).1 < 256 := by
  unfold letV
  split <;> simp <;> omega
theorem labF_ok : ∀ n b, AreBytes b → AreBytes (labF n b).1
  | 0, _, _ => fun x hx => by simp [labF] at hx
  | _ + 1, [], _ => fun x hx => by simp [labF] at hx
  | k + 1, c :: r, h => fun x hx => by
    unfold labF at hx
    split at hx
    · simp at hx
    · rcases List.mem_cons.1 hx with rfl | hx
      · exact letV_lt (h c (by simp))
      · exact labF_ok k r (fun z hz => h z (List.mem_cons_of_mem _ hz)) x hx
theorem labF_len : ∀ n b, (labF n b).2 = 0 → (labF n b).1.length = n ∧ n ≤ b.length
  | 0, _, _ => ⟨rfl, Nat.zero_le _⟩
  | _ + 1, [], h => by simp [labF] at h
  | k + 1, c :: r, h => by
    unfold labF at h ⊢
    split at h
    · simp at h
    · rename_i h1
      rw [if_neg h1]
      have := labF_len k r h
      simp only [List.length_cons]
      omega
theorem namF_more (b : List Int) (p : Nat) : ∀ f f' k T, b.length < k + f → b.length < k + f' → namF b p f k T = namF b p f' k T
  | 0, 0, _, _, _, _ => rfl
  | 0, f' + 1, k, T, h, _ => by
    unfold namF
    rw [if_pos (show ¬ k < b.length by omega)]
  | f + 1, 0, k, T, _, h => by
    unfold namF
    rw [if_pos (show ¬ k < b.length by omega)]
  | f + 1, f' + 1, k, T, h1, h2 => by
    unfold namF
    split
    · rfl
    · split
      · rfl
      · split
        · rfl
        · split
          · rfl
          · split
            · rfl
            · exact namF_more b p f f' _ _ (by omega) (by omega)
def namAt (b : List Int) (p k : Nat) (T : List Int) : List Int × Int × Int := namF b p (b.length + 1) k T
theorem namAt_end {b : List Int} {p k : Nat} {T : List Int} (h : ¬ k < b.length) : namAt b p k T = ([], 0, 160) := by
  unfold namAt namF
  rw [if_pos h]
theorem namAt_done {b : List Int} {p k : Nat} {T : List Int} (h : k < b.length) (h0 : b.getD k 0 = 0) : namAt b p k T = (T, (k : Int) + 1, 0) := by
  unfold namAt namF
  rw [if_neg (by omega), if_pos h0]
theorem namAt_long {b : List Int} {p k : Nat} {T : List Int} (h : k < b.length) (h0 : b.getD k 0 ≠ 0) (h1 : 63 < b.getD k 0) : namAt b p k T = ([], 0, 161) := by
  unfold namAt namF
  rw [if_neg (by omega), if_neg h0, if_pos h1]
theorem namAt_bad {b : List Int} {p k : Nat} {T : List Int} (h : k < b.length) (h0 : b.getD k 0 ≠ 0) (h1 : ¬ 63 < b.getD k 0) (h2 : (labF (b.getD k 0).toNat (b.drop (k + 1))).2 ≠ 0) : namAt b p k T = ([], 0, (labF (b.getD k 0).toNat (b.drop (k + 1))).2) := by
  unfold namAt namF
  rw [if_neg (by omega), if_neg h0, if_neg h1, if_pos h2]
theorem namAt_many {b : List Int} {p k : Nat} {T : List Int} (h : k < b.length) (h0 : b.getD k 0 ≠ 0) (h1 : ¬ 63 < b.getD k 0) (h2 : (labF (b.getD k 0).toNat (b.drop (k + 1))).2 = 0) (h3 : 255 < (k : Int) + 1 + b.getD k 0 - p + 1) : namAt b p k T = ([], 0, 161) := by
  unfold namAt namF
  rw [if_neg (by omega), if_neg h0, if_neg h1, if_neg (fun e => e h2), if_pos h3]
theorem namAt_next {b : List Int} {p k : Nat} {T : List Int} (h : k < b.length) (h0 : b.getD k 0 ≠ 0) (h1 : ¬ 63 < b.getD k 0) (h2 : (labF (b.getD k 0).toNat (b.drop (k + 1))).2 = 0) (h3 : ¬ 255 < (k : Int) + 1 + b.getD k 0 - p + 1) : namAt b p k T = namAt b p (k + 1 + (b.getD k 0).toNat) (dotV T ++ (labF (b.getD k 0).toNat (b.drop (k + 1))).1) := by
  conv => lhs; unfold namAt namF
  rw [if_neg (by omega), if_neg h0, if_neg h1, if_neg (fun e => e h2), if_neg h3]
  exact namF_more b p _ _ _ _ (by omega) (by omega)
end Go.Proofs.YtnafdgpkofffaaaDoor
