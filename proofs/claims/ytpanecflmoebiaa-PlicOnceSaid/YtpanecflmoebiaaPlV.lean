/-
  Package plic, plain numbers: what is claimed is not told, whatever lines are up; given back and its line up it is told again.
-/
import Derived.Test.YtpanecflmoebiaaPlU
set_option linter.unusedVariables false
set_option linter.unusedSimpArgs false
namespace Go.Proofs.Ytpanecflmoebiaa
open Go.RowKit

/-- Bits without 1's, without 2's. -/
theorem src_lack {o : Int} (ho : o = 2 ∨ o = 4) {n k m e : Int} (hn : Src n) (hk : Src k) (hm : Src m) (he : Src e) :
    bits .and .i64 (bits .or .i64 (bits .andNot .i64 n o) (bits .andNot .i64 m (bits .or .i64 k o))) e = 0 ∨ bits .and .i64 (bits .or .i64 (bits .andNot .i64 n o) (bits .andNot .i64 m (bits .or .i64 k o))) e = 6 - o := by
  have step1 : ∀ z : Int, z = bits .andNot .i64 n o → z = 0 ∨ z = 6 - o := by
    rcases ho with rfl | rfl <;> rcases hn with rfl | rfl | rfl | rfl <;> (intro z hz; subst hz; decide)
  have step2 : ∀ z : Int, z = bits .or .i64 k o → z = o ∨ z = 6 := by
    rcases ho with rfl | rfl <;> rcases hk with rfl | rfl | rfl | rfl <;> (intro z hz; subst hz; decide)
  have h1 := step1 _ rfl
  have h2 := step2 _ rfl
  generalize bits .andNot .i64 n o = A at *
  generalize bits .or .i64 k o = B at *
  have step3 : bits .andNot .i64 m B = 0 ∨ bits .andNot .i64 m B = 6 - o := by
    rcases ho with rfl | rfl <;> rcases hm with rfl | rfl | rfl | rfl <;> rcases h2 with rfl | rfl <;> decide
  generalize bits .andNot .i64 m B = C at *
  rcases ho with rfl | rfl <;> rcases h1 with rfl | rfl <;> rcases step3 with rfl | rfl <;> rcases he with rfl | rfl | rfl | rfl <;> decide
theorem src_has {o : Int} (ho : o = 2 ∨ o = 4) {n k e : Int} (hn : Src n) (hk : Src k) (he : e = o ∨ e = 6) :
    (bits .and .i64 (bits .or .i64 n (bits .andNot .i64 (bits .and .i64 o 6) (bits .andNot .i64 (bits .or .i64 k o) (bits .and .i64 o e)))) e = o ∨ bits .and .i64 (bits .or .i64 n (bits .andNot .i64 (bits .and .i64 o 6) (bits .andNot .i64 (bits .or .i64 k o) (bits .and .i64 o e)))) e = 6) ∧
    bits .and .i64 (bits .or .i64 n (bits .andNot .i64 (bits .and .i64 o 6) (bits .andNot .i64 (bits .or .i64 k o) (bits .and .i64 o e)))) o = o := by
  rcases ho with rfl | rfl <;> rcases hn with rfl | rfl | rfl | rfl <;> rcases hk with rfl | rfl | rfl | rfl <;> rcases he with rfl | rfl <;> decide
theorem src_told {o : Int} (ho : o = 2 ∨ o = 4) {n e : Int} (hn : Src n) (he : Src e) (h : bits .and .i64 n e = o ∨ bits .and .i64 n e = 6) : e = o ∨ e = 6 := by
  rcases ho with rfl | rfl <;> rcases hn with rfl | rfl | rfl | rfl <;> rcases he with rfl | rfl | rfl | rfl <;> revert h <;> decide
/-- Who is told has its bit among those that are, and is above the threshold. -/
theorem bestV_one {told t p1 p2 : Int} (h : bestV told t p1 p2 = 1) : (told = 2 ∨ told = 6) ∧ t < p1 := by
  unfold bestV at h
  split at h
  · assumption
  · split at h <;> omega
theorem bestV_two {told t p1 p2 : Int} (h : bestV told t p1 p2 = 2) : (told = 4 ∨ told = 6) ∧ t < p2 := by
  unfold bestV at h
  split at h
  · split at h
    · omega
    · omega
  · split at h
    · assumption
    · omega
theorem bestV_some1 {told t p1 p2 : Int} (h : told = 2 ∨ told = 6) (h1 : t < p1) : bestV told t p1 p2 ≠ 0 := by
  unfold bestV
  rw [if_pos ⟨h, h1⟩]
  split <;> omega
theorem bestV_some2 {told t p1 p2 : Int} (h : told = 4 ∨ told = 6) (h1 : t < p2) : bestV told t p1 p2 ≠ 0 := by
  unfold bestV
  split
  · split <;> omega
  · rw [if_pos ⟨h, h1⟩]; omega

/-- Which register claims for a context. -/
def place (c : Int) : Int := 2097156 + 4096 * c
theorem place_reg {c : Int} (h : c = 0 ∨ c = 1) : regAt (place c) = 8 + c := by rcases h with rfl | rfl <;> decide
theorem ctx_at {c : Int} (h : c = 0 ∨ c = 1) (x : VS) : x.load (8 + c) = x.best c ∧ x.loaded (8 + c) = x.claim (x.best c) ∧ ∀ y, x.store (8 + c) y = x.back c y := by
  rcases h with rfl | rfl
  · exact ⟨rfl, rfl, fun _ => rfl⟩
  · exact ⟨rfl, rfl, fun _ => rfl⟩
theorem claim_0 {x : VS} (h : x.Ok) : (x.claim 0).ps = x.ps := claim_none h
theorem claim_only {b o : Int} (hb : (b = 1 ∧ o = 2) ∨ (b = 2 ∧ o = 4)) : onlyV b = o := by rcases hb with ⟨rfl, rfl⟩ | ⟨rfl, rfl⟩ <;> rfl
section
variable {x : VS} (hx : x.Ok) {c c' b o : Int} (hb : (b = 1 ∧ o = 2) ∨ (b = 2 ∧ o = 4)) (l : Int)
include hx hb
theorem not_again : ((x.claim b).set l).best c' ≠ b := by
  have ho : o = 2 ∨ o = 4 := by omega
  have e : ((x.claim b).set l).best c' = bestV (bits .and .i64 (bits .or .i64 (bits .andNot .i64 x.n o) (bits .andNot .i64 (bits .and .i64 l 6) (bits .or .i64 x.k o))) (x.e c')) (x.t c') x.p1 x.p2 := by
    rw [← claim_only hb]; rfl
  rw [e]
  have := src_lack ho hx.n hx.k (and_six l) (hx.e c')
  intro h
  rcases hb with ⟨rfl, rfl⟩ | ⟨rfl, rfl⟩
  · have := (bestV_one h).1; omega
  · have := (bestV_two h).1; omega
theorem back_again (hc : x.best c = b) : ((((x.claim b).set l).back c b).set o).best c ≠ 0 ∧ bits .and .i64 ((((x.claim b).set l).back c b).set o).n o = o := by
  have ho : o = 2 ∨ o = 4 := by omega
  have hq := (hx.claim b).set l
  have hk : ((x.claim b).set l).k = bits .or .i64 x.k o := by rw [← claim_only hb]; rfl
  have e1 : ((((x.claim b).set l).back c b).set o).n = bits .or .i64 ((x.claim b).set l).n (bits .andNot .i64 (bits .and .i64 o 6) (bits .andNot .i64 (bits .or .i64 x.k o) (bits .and .i64 o (x.e c)))) := by
    rw [← hk, ← claim_only hb]; rfl
  have e2 : ((((x.claim b).set l).back c b).set o).best c = bestV (bits .and .i64 ((((x.claim b).set l).back c b).set o).n (x.e c)) (x.t c) x.p1 x.p2 := rfl
  have he : x.e c = o ∨ x.e c = 6 := by
    refine src_told ho hx.n (hx.e c) ?_
    rcases hb with ⟨rfl, rfl⟩ | ⟨rfl, rfl⟩
    · exact (bestV_one hc).1
    · exact (bestV_two hc).1
  have hh := src_has ho hq.n hx.k he
  rw [e2, e1]
  refine ⟨?_, hh.2⟩
  rcases hb with ⟨rfl, rfl⟩ | ⟨rfl, rfl⟩
  · exact bestV_some1 hh.1 (bestV_one hc).2
  · exact bestV_some2 hh.1 (bestV_two hc).2
end
end Go.Proofs.Ytpanecflmoebiaa
