/-
  Package plic and the document's page of it, by one answer each (of every controller, right or not).
-/
import Derived.Test.YtgcfmijkggpemaaGreatPlR
set_option maxRecDepth 4000
set_option linter.unusedVariables false
set_option linter.unusedSimpArgs false
namespace Go.Proofs.YtgcfmijkggpemaaGreat
open Go.RowKit

/-- A controller as eight numbers. -/
def vsOf (s : PS) : VS := ⟨s.pr.getD 1 0, s.pr.getD 2 0, s.n, s.k, s.en.getD 0 0, s.th.getD 0 0, s.en.getD 1 0, s.th.getD 1 0⟩
theorem vsOf_ps (x : VS) : vsOf x.ps = x := rfl
def badB (s : PS) (off size : Int) : Bool := !plChk s || size != 4 || regAt off == 0
def plLdY (s : PS) (off size : Int) : Int := if badB s off size = true then 0 else (vsOf s).load (regAt off)
def plLdS (s : PS) (off size : Int) : PS := if badB s off size = true then s else ((vsOf s).loaded (regAt off)).ps
def plStS (s : PS) (off size x : Int) : PS := if badB s off size = true then s else ((vsOf s).store (regAt off) (x % 4294967296)).ps
def setS (s : PS) (l : Int) : PS := if plChk s = true then ((vsOf s).set l).ps else s
def bestS (s : PS) (x : Int) : Int := if plChk s = true ∧ (x = 0 ∨ x = 1) then (vsOf s).best x else 0
theorem badB_bad {s : PS} {off size : Int} (h : badB s off size = true) : Bad s off size := by
  simp only [badB, Bool.or_eq_true, Bool.not_eq_true', bne_iff_ne, ne_eq, beq_iff_eq] at h
  rcases h with (h | h) | h
  · exact .inl h
  · exact .inr (.inl h)
  · exact .inr (.inr h)
theorem badB_ok {s : PS} {off size : Int} (h : badB s off size = false) : plChk s = true ∧ size = 4 ∧ regAt off ≠ 0 := by
  simp only [badB, Bool.or_eq_false_iff, Bool.not_eq_false', bne_eq_false_iff_eq, beq_eq_false_iff_ne] at h
  exact ⟨h.1.1, h.1.2, h.2⟩

/-- A controller's value, its rows somewhere. -/
abbrev plV (s : PS) (a1 : Option Addr) (c1 : Nat) (a2 : Option Addr) (c2 : Nat) (a3 : Option Addr) (c3 : Nat) : Value := .agg #[.slice a1 s.pr.length c1, .int .i64 s.n, .int .i64 s.k, .slice a2 s.en.length c2, .slice a3 s.th.length c3]
theorem Pl.shaped {w : World} {v : Value} {s : PS} (h : Pl w v s) : ∃ a1 c1 a2 c2 a3 c3, v = plV s a1 c1 a2 c2 a3 c3 := by
  obtain ⟨vP, vE, vT, rfl, h1, h2, h3⟩ := h.shape
  obtain ⟨a1, c1, rfl, _, _⟩ := h1.shape
  obtain ⟨a2, c2, rfl, _, _⟩ := h2.shape
  obtain ⟨a3, c3, rfl, _, _⟩ := h3.shape
  exact ⟨a1, c1, a2, c2, a3, c3, rfl⟩

theorem load_t {v : Value} {s : PS} (hf : s.Fits) (off size : Int) {w : World} (hb : Pl w v s) :
    Calls Tryz.prog 50 #[v, .int .u64 off, .int .i64 size] w fun e w' => ∃ v', e = .returned (.tuple #[.int .u64 (plLdY s off size), v', .bool (!badB s off size)]) ∧ Hid (Plr w' w.heap.size v' (plLdS s off size)) ∧ Grew w w' := by
  unfold plLdY plLdS
  cases hB : badB s off size
  · obtain ⟨hc, rfl, hr⟩ := badB_ok hB
    obtain ⟨x, hx, rfl⟩ := hb.vs hc
    obtain ⟨kl, ks, aL, aS, hR⟩ := reg_at off hr
    refine (plLoad_yes hR hx hb (Grew.refl w)).mono ?_
    rintro e w' ⟨v', rfl, H, g⟩
    exact ⟨v', rfl, H, g⟩
  · refine (plLoad_no hf off size (badB_bad hB) hb (Grew.refl w)).mono ?_
    rintro e w' ⟨v', rfl, H, g⟩
    exact ⟨v', rfl, H, g⟩
theorem store_t {v : Value} {s : PS} (hf : s.Fits) (off size x : Int) (hx0 : 0 ≤ x) (hx1 : x < 18446744073709551616) {w : World} (hb : Pl w v s) :
    Calls Tryz.prog 52 #[v, .int .u64 off, .int .i64 size, .int .u64 x] w fun e w' => ∃ v', e = .returned (.tuple #[v', .bool (!badB s off size)]) ∧ Hid (Plr w' w.heap.size v' (plStS s off size x)) ∧ Grew w w' := by
  unfold plStS
  cases hB : badB s off size
  · obtain ⟨hc, rfl, hr⟩ := badB_ok hB
    obtain ⟨y, hy, rfl⟩ := hb.vs hc
    obtain ⟨kl, ks, aL, aS, hR⟩ := reg_at off hr
    refine (plStore_yes hR hy x hx0 hx1 hb (Grew.refl w)).mono ?_
    rintro e w' ⟨v', rfl, H, g⟩
    exact ⟨v', rfl, H, g⟩
  · refine (plStore_no hf off size x (badB_bad hB) hb (Grew.refl w)).mono ?_
    rintro e w' ⟨v', rfl, H, g⟩
    exact ⟨v', rfl, H, g⟩
theorem set_t {v : Value} {s : PS} (hf : s.Fits) (l : Int) {w : World} (hb : Pl w v s) :
    Calls Tryz.prog 20 #[v, .int .i64 l] w fun e w' => ∃ v', e = .returned v' ∧ Hid (Plr w' w.heap.size v' (setS s l)) ∧ Grew w w' := by
  unfold setS
  cases hc : plChk s
  · refine (Set_no hf l hc hb (Grew.refl w)).mono ?_
    rintro e w' ⟨v', rfl, H, g⟩
    exact ⟨v', rfl, H, g⟩
  · obtain ⟨x, hx, rfl⟩ := hb.vs hc
    refine (Set_yes hx l hb (Grew.refl w)).mono ?_
    rintro e w' ⟨v', rfl, H, g⟩
    exact ⟨v', rfl, H, g⟩
theorem best_t {v : Value} {s : PS} (x : Int) {w : World} (hb : Pl w v s) :
    Calls Tryz.prog 24 #[v, .int .i64 x] w fun e w' => e = .returned (.int .i64 (bestS s x)) ∧ Grew w w' := by
  unfold bestS
  by_cases h : plChk s = true ∧ (x = 0 ∨ x = 1)
  · rw [if_pos h]
    obtain ⟨y, hy, rfl⟩ := hb.vs h.1
    exact Best_yes hy h.2 hb (Grew.refl w)
  · rw [if_neg h]
    refine Best_no x ?_ hb (Grew.refl w)
    cases hc : plChk s
    · exact .inl rfl
    · rw [hc] at h
      simp only [true_and] at h
      exact .inr (by omega)
theorem new_t (w : World) : Calls Tryz.prog 28 #[] w fun e w' => ∃ v', e = .returned v' ∧ Hid (Plr w' w.heap.size v' newV.ps) ∧ Grew w w' := by
  refine (New_c (Grew.refl w)).mono ?_
  rintro e w' ⟨v', rfl, H, g⟩
  exact ⟨v', rfl, H, g⟩
end Go.Proofs.YtgcfmijkggpemaaGreat
