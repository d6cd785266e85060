/-
  Contracts of the document's own pages: allowed, case by case (others, a page that is no user's).
-/
import Derived.Test.YtocmningcpcmiaaSvB
import Derived.WalkKit
import Derived.Outline
set_option linter.unusedVariables false
set_option linter.unusedSimpArgs false
namespace Go.Proofs.Ytocmningcpcmiaa
open Go.RowKit

set_option maxHeartbeats 1000000 in
theorem ref8allow_B0f (e status priv kind : Int) (l : Nat) (hl : l ≤ 2) (he : 0 ≤ e ∧ e < 18446744073709551616) (hs : 0 ≤ status ∧ status < 18446744073709551616) (w : World) (hp : 1 ≤ priv) (hp' : ¬ priv < 1) (hu : (fieldV e 4 4 == 1) = false) (hk : kind = 0) (hx : (fieldV e 3 3 == 1) = false) : Calls Try.prog 32 #[.int .u64 e, .int .u64 status, .int .i64 priv, .int .i64 kind, .int .i64 l] w fun e' w' => e' = .returned (.bool (allowV e status priv kind l)) ∧ w = w' := by
  have hv : allowV e status priv kind l = false := by simp [allowV, userV, permV, lowV, hp, hp', hu, hk, hx]
  have HV := Lib.hid hv
  clear hv
  obtain ⟨he0, he1⟩ := he
  obtain ⟨hs0, hs1⟩ := hs
  subst hk
  clear hl
  go_enter Try.func32, Try.ntmps32
  go_wp2_with (go_at_call 30; refine (ref8f_c _ _ _ (by assumption) (by assumption) _).mono ?_; rintro e' w' ⟨rfl, rfl⟩)
  go_ret
  exact ⟨by rw [HV.out]; rfl, rfl⟩
set_option maxHeartbeats 1000000 in
theorem ref8allow_B0t (e status priv kind : Int) (l : Nat) (hl : l ≤ 2) (he : 0 ≤ e ∧ e < 18446744073709551616) (hs : 0 ≤ status ∧ status < 18446744073709551616) (w : World) (hp : 1 ≤ priv) (hp' : ¬ priv < 1) (hu : (fieldV e 4 4 == 1) = false) (hk : kind = 0) (hx : (fieldV e 3 3 == 1) = true) : Calls Try.prog 32 #[.int .u64 e, .int .u64 status, .int .i64 priv, .int .i64 kind, .int .i64 l] w fun e' w' => e' = .returned (.bool (allowV e status priv kind l)) ∧ w = w' := by
  have hv0 : allowV e status priv kind 0 = true := by simp [allowV, userV, permV, lowV, hp, hp', hu, hk, hx]
  have hv1 : 0 < l → allowV e status priv kind l = (fieldV e (10 + 9 * (l : Int) - 1) 10 == 0) := fun h => by
    rw [show 10 + 9 * (l : Int) - 1 = 9 + 9 * l by omega]
    have h0 : ¬ l = 0 := by omega
    simp [allowV, userV, permV, lowV, hp, hp', hu, hk, hx, h0]
  have HV0 := Lib.hid hv0
  have HV1 := Lib.hid hv1
  clear hv0 hv1
  obtain ⟨he0, he1⟩ := he
  obtain ⟨hs0, hs1⟩ := hs
  subst hk
  rcases Nat.eq_zero_or_pos l with rfl | hl1
  · clear hl
    go_enter Try.func32, Try.ntmps32
    go_wp2_with (go_at_call 30; refine (ref8f_c _ _ _ (by assumption) (by assumption) _).mono ?_; rintro e' w' ⟨rfl, rfl⟩)
    go_ret
    exact ⟨by rw [HV0.out]; rfl, rfl⟩
  · have q0 : (1 : Int) ≤ (l : Int) := by omega
    have q1 : (l : Int) ≤ 2 := by omega
    have q2 : ((l : Int) == 0) = false := by simp; omega
    clear hl
    go_enter Try.func32, Try.ntmps32
    go_wp2_with (go_at_call 30; refine (ref8f_c _ _ _ (by assumption) (by assumption) _).mono ?_; rintro e' w' ⟨rfl, rfl⟩)
    go_ret
    exact ⟨by rw [HV1.out hl1]; first | rfl | exact ret_bool (by congr 2; omega), rfl⟩
set_option maxHeartbeats 1000000 in
theorem ref8allow_B2f (e status priv kind : Int) (l : Nat) (hl : l ≤ 2) (he : 0 ≤ e ∧ e < 18446744073709551616) (hs : 0 ≤ status ∧ status < 18446744073709551616) (w : World) (hp : 1 ≤ priv) (hp' : ¬ priv < 1) (hu : (fieldV e 4 4 == 1) = false) (hk2 : kind = 2) (hw : (fieldV e 2 2 == 1) = false) : Calls Try.prog 32 #[.int .u64 e, .int .u64 status, .int .i64 priv, .int .i64 kind, .int .i64 l] w fun e' w' => e' = .returned (.bool (allowV e status priv kind l)) ∧ w = w' := by
  have hv : allowV e status priv kind l = false := by simp [allowV, userV, permV, lowV, hp, hp', hu, hk2, hw]
  have HV := Lib.hid hv
  clear hv
  obtain ⟨he0, he1⟩ := he
  obtain ⟨hs0, hs1⟩ := hs
  subst hk2
  clear hl
  go_enter Try.func32, Try.ntmps32
  go_wp2_with (go_at_call 30; refine (ref8f_c _ _ _ (by assumption) (by assumption) _).mono ?_; rintro e' w' ⟨rfl, rfl⟩)
  go_ret
  exact ⟨by rw [HV.out]; rfl, rfl⟩
set_option maxHeartbeats 1000000 in
theorem ref8allow_B2t (e status priv kind : Int) (l : Nat) (hl : l ≤ 2) (he : 0 ≤ e ∧ e < 18446744073709551616) (hs : 0 ≤ status ∧ status < 18446744073709551616) (w : World) (hp : 1 ≤ priv) (hp' : ¬ priv < 1) (hu : (fieldV e 4 4 == 1) = false) (hk2 : kind = 2) (hw : (fieldV e 2 2 == 1) = true) : Calls Try.prog 32 #[.int .u64 e, .int .u64 status, .int .i64 priv, .int .i64 kind, .int .i64 l] w fun e' w' => e' = .returned (.bool (allowV e status priv kind l)) ∧ w = w' := by
  have hv0 : allowV e status priv kind 0 = true := by simp [allowV, userV, permV, lowV, hp, hp', hu, hk2, hw]
  have hv1 : 0 < l → allowV e status priv kind l = (fieldV e (10 + 9 * (l : Int) - 1) 10 == 0) := fun h => by
    rw [show 10 + 9 * (l : Int) - 1 = 9 + 9 * l by omega]
    have h0 : ¬ l = 0 := by omega
    simp [allowV, userV, permV, lowV, hp, hp', hu, hk2, hw, h0]
  have HV0 := Lib.hid hv0
  have HV1 := Lib.hid hv1
  clear hv0 hv1
  obtain ⟨he0, he1⟩ := he
  obtain ⟨hs0, hs1⟩ := hs
  subst hk2
  rcases Nat.eq_zero_or_pos l with rfl | hl1
  · clear hl
    go_enter Try.func32, Try.ntmps32
    go_wp2_with (go_at_call 30; refine (ref8f_c _ _ _ (by assumption) (by assumption) _).mono ?_; rintro e' w' ⟨rfl, rfl⟩)
    go_ret
    exact ⟨by rw [HV0.out]; rfl, rfl⟩
  · have q0 : (1 : Int) ≤ (l : Int) := by omega
    have q1 : (l : Int) ≤ 2 := by omega
    have q2 : ((l : Int) == 0) = false := by simp; omega
    clear hl
    go_enter Try.func32, Try.ntmps32
    go_wp2_with (go_at_call 30; refine (ref8f_c _ _ _ (by assumption) (by assumption) _).mono ?_; rintro e' w' ⟨rfl, rfl⟩)
    go_ret
    exact ⟨by rw [HV1.out hl1]; first | rfl | exact ret_bool (by congr 2; omega), rfl⟩
set_option maxHeartbeats 1000000 in
theorem ref8allow_Bor (e status priv kind : Int) (l : Nat) (hl : l ≤ 2) (he : 0 ≤ e ∧ e < 18446744073709551616) (hs : 0 ≤ status ∧ status < 18446744073709551616) (w : World) (hp : 1 ≤ priv) (hp' : ¬ priv < 1) (hu : (fieldV e 4 4 == 1) = false) (hk : ¬ kind = 0) (hk' : (kind == 0) = false) (hk2 : ¬ kind = 2) (hk2' : (kind == 2) = false) (hr : (fieldV e 1 1 == 1) = true) : Calls Try.prog 32 #[.int .u64 e, .int .u64 status, .int .i64 priv, .int .i64 kind, .int .i64 l] w fun e' w' => e' = .returned (.bool (allowV e status priv kind l)) ∧ w = w' := by
  have hv0 : allowV e status priv kind 0 = true := by simp [allowV, userV, permV, lowV, hp, hp', hu, hk, hk', hk2, hk2', hr]
  have hv1 : 0 < l → allowV e status priv kind l = (fieldV e (10 + 9 * (l : Int) - 1) 10 == 0) := fun h => by
    rw [show 10 + 9 * (l : Int) - 1 = 9 + 9 * l by omega]
    have h0 : ¬ l = 0 := by omega
    simp [allowV, userV, permV, lowV, hp, hp', hu, hk, hk', hk2, hk2', hr, h0]
  have HV0 := Lib.hid hv0
  have HV1 := Lib.hid hv1
  clear hv0 hv1
  obtain ⟨he0, he1⟩ := he
  obtain ⟨hs0, hs1⟩ := hs
  rcases Nat.eq_zero_or_pos l with rfl | hl1
  · clear hl
    go_enter Try.func32, Try.ntmps32
    go_wp2_with (go_at_call 30; refine (ref8f_c _ _ _ (by assumption) (by assumption) _).mono ?_; rintro e' w' ⟨rfl, rfl⟩)
    go_ret
    exact ⟨by rw [HV0.out]; rfl, rfl⟩
  · have q0 : (1 : Int) ≤ (l : Int) := by omega
    have q1 : (l : Int) ≤ 2 := by omega
    have q2 : ((l : Int) == 0) = false := by simp; omega
    clear hl
    go_enter Try.func32, Try.ntmps32
    go_wp2_with (go_at_call 30; refine (ref8f_c _ _ _ (by assumption) (by assumption) _).mono ?_; rintro e' w' ⟨rfl, rfl⟩)
    go_ret
    exact ⟨by rw [HV1.out hl1]; first | rfl | exact ret_bool (by congr 2; omega), rfl⟩
set_option maxHeartbeats 1000000 in
theorem ref8allow_Bof (e status priv kind : Int) (l : Nat) (hl : l ≤ 2) (he : 0 ≤ e ∧ e < 18446744073709551616) (hs : 0 ≤ status ∧ status < 18446744073709551616) (w : World) (hp : 1 ≤ priv) (hp' : ¬ priv < 1) (hu : (fieldV e 4 4 == 1) = false) (hk : ¬ kind = 0) (hk' : (kind == 0) = false) (hk2 : ¬ kind = 2) (hk2' : (kind == 2) = false) (hr : (fieldV e 1 1 == 1) = false) (hx : (fieldV e 3 3 == 1) = false) : Calls Try.prog 32 #[.int .u64 e, .int .u64 status, .int .i64 priv, .int .i64 kind, .int .i64 l] w fun e' w' => e' = .returned (.bool (allowV e status priv kind l)) ∧ w = w' := by
  have hv : allowV e status priv kind l = false := by simp [allowV, userV, permV, lowV, hp, hp', hu, hk, hk', hk2, hk2', hr, hx]
  have HV := Lib.hid hv
  clear hv
  obtain ⟨he0, he1⟩ := he
  obtain ⟨hs0, hs1⟩ := hs
  clear hl
  go_enter Try.func32, Try.ntmps32
  go_wp2_with (go_at_call 30; refine (ref8f_c _ _ _ (by assumption) (by assumption) _).mono ?_; rintro e' w' ⟨rfl, rfl⟩)
  go_ret
  exact ⟨by rw [HV.out]; rfl, rfl⟩
set_option maxHeartbeats 1000000 in
theorem ref8allow_Bog (e status priv kind : Int) (l : Nat) (hl : l ≤ 2) (he : 0 ≤ e ∧ e < 18446744073709551616) (hs : 0 ≤ status ∧ status < 18446744073709551616) (w : World) (hp : 1 ≤ priv) (hp' : ¬ priv < 1) (hu : (fieldV e 4 4 == 1) = false) (hk : ¬ kind = 0) (hk' : (kind == 0) = false) (hk2 : ¬ kind = 2) (hk2' : (kind == 2) = false) (hr : (fieldV e 1 1 == 1) = false) (hx : (fieldV e 3 3 == 1) = true) (h19 : (fieldV status 19 19 == 1) = false) : Calls Try.prog 32 #[.int .u64 e, .int .u64 status, .int .i64 priv, .int .i64 kind, .int .i64 l] w fun e' w' => e' = .returned (.bool (allowV e status priv kind l)) ∧ w = w' := by
  have hv : allowV e status priv kind l = false := by simp [allowV, userV, permV, lowV, hp, hp', hu, hk, hk', hk2, hk2', hr, hx, h19]
  have HV := Lib.hid hv
  clear hv
  obtain ⟨he0, he1⟩ := he
  obtain ⟨hs0, hs1⟩ := hs
  clear hl
  go_enter Try.func32, Try.ntmps32
  go_wp2_with (go_at_call 30; refine (ref8f_c _ _ _ (by assumption) (by assumption) _).mono ?_; rintro e' w' ⟨rfl, rfl⟩)
  go_ret
  exact ⟨by rw [HV.out]; rfl, rfl⟩
set_option maxHeartbeats 1000000 in
theorem ref8allow_Bot (e status priv kind : Int) (l : Nat) (hl : l ≤ 2) (he : 0 ≤ e ∧ e < 18446744073709551616) (hs : 0 ≤ status ∧ status < 18446744073709551616) (w : World) (hp : 1 ≤ priv) (hp' : ¬ priv < 1) (hu : (fieldV e 4 4 == 1) = false) (hk : ¬ kind = 0) (hk' : (kind == 0) = false) (hk2 : ¬ kind = 2) (hk2' : (kind == 2) = false) (hr : (fieldV e 1 1 == 1) = false) (hx : (fieldV e 3 3 == 1) = true) (h19 : (fieldV status 19 19 == 1) = true) : Calls Try.prog 32 #[.int .u64 e, .int .u64 status, .int .i64 priv, .int .i64 kind, .int .i64 l] w fun e' w' => e' = .returned (.bool (allowV e status priv kind l)) ∧ w = w' := by
  have hv0 : allowV e status priv kind 0 = true := by simp [allowV, userV, permV, lowV, hp, hp', hu, hk, hk', hk2, hk2', hr, hx, h19]
  have hv1 : 0 < l → allowV e status priv kind l = (fieldV e (10 + 9 * (l : Int) - 1) 10 == 0) := fun h => by
    rw [show 10 + 9 * (l : Int) - 1 = 9 + 9 * l by omega]
    have h0 : ¬ l = 0 := by omega
    simp [allowV, userV, permV, lowV, hp, hp', hu, hk, hk', hk2, hk2', hr, hx, h19, h0]
  have HV0 := Lib.hid hv0
  have HV1 := Lib.hid hv1
  clear hv0 hv1
  obtain ⟨he0, he1⟩ := he
  obtain ⟨hs0, hs1⟩ := hs
  rcases Nat.eq_zero_or_pos l with rfl | hl1
  · clear hl
    go_enter Try.func32, Try.ntmps32
    go_wp2_with (go_at_call 30; refine (ref8f_c _ _ _ (by assumption) (by assumption) _).mono ?_; rintro e' w' ⟨rfl, rfl⟩)
    go_ret
    exact ⟨by rw [HV0.out]; rfl, rfl⟩
  · have q0 : (1 : Int) ≤ (l : Int) := by omega
    have q1 : (l : Int) ≤ 2 := by omega
    have q2 : ((l : Int) == 0) = false := by simp; omega
    clear hl
    go_enter Try.func32, Try.ntmps32
    go_wp2_with (go_at_call 30; refine (ref8f_c _ _ _ (by assumption) (by assumption) _).mono ?_; rintro e' w' ⟨rfl, rfl⟩)
    go_ret
    exact ⟨by rw [HV1.out hl1]; first | rfl | exact ret_bool (by congr 2; omega), rfl⟩
end Go.Proofs.Ytocmningcpcmiaa
