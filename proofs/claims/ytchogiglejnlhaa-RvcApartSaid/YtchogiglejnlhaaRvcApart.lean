/-
  The statement about the row of addi: two short instructions of one register with unlike immediates stand for unlike ones. For every register and immediates; beyond their bounds the law asks nothing of them. Conditions: none.
-/
import Derived.Test.YtchogiglejnlhaaRows
import Derived.Test.YtchogiglejnlhaaRvcH
import Derived.Test.YtchogiglejnlhaaLaw
namespace Go.Proofs.Ytchogiglejnlhaa.rvcApart
open Go.ChangeShapes Go.WideShapes Go.ChangeAt Go.RowKit

def put (rd a : Nat) : Nat := 1 + rd * 128 + a % 32 * 4 + a / 32 * 4096
theorem put_lt (rd a : Nat) (h1 : rd < 32) (h2 : a < 64) : put rd a < 65536 := by unfold put; omega
theorem put_apart (rd a : Nat) (h1 : rd < 32) (h2 : a < 64) : expN (put rd a) / 1048576 % 64 = a ∧ okB (put rd a) = true := by
  have h := chk_apart (put rd a) (put_lt rd a h1 h2) (by unfold put; omega) (by unfold put; omega)
  refine ⟨?_, by rw [okB_eq]; simp [h.2]⟩
  rw [h.1]
  unfold put
  omega
def sameB (rd a b : Nat) : Bool := ((expN (put rd a) : Nat) : Int) == ((expN (put rd b) : Nat) : Int)
theorem sameB_eq (rd a b : Nat) (h1 : rd < 32) (h2 : a < 64) (h3 : b < 64) : sameB rd a b = ((a : Int) == (b : Int)) := by
  unfold sameB
  rw [Bool.eq_iff_iff]
  simp only [beq_iff_eq]
  constructor
  · intro h
    have e : expN (put rd a) = expN (put rd b) := by omega
    have ea := (put_apart rd a h1 h2).1
    have eb := (put_apart rd b h1 h3).1
    rw [e] at ea
    omega
  · intro h
    obtain rfl : a = b := by omega
    rfl

theorem walkInside (rd a b : Nat) (h1 : rd < 32) (h2 : a < 64) (h3 : b < 64) (w : World) :
    Calls Try.prog 5 #[.int .i64 rd, .int .i64 a, .int .i64 b] w fun e w' => e = .returned (.bool true) ∧ Below w.heap.size w w' := by
  have hsame := sameB_eq rd a b h1 h2 h3
  unfold sameB at hsame
  have ra := expand_c (put rd a) (put_lt rd a h1 h2) (Grew.refl w)
  rw [(put_apart rd a h1 h2).2] at ra
  have ea : 1 + (rd : Int) * 128 + (a : Int) % 32 * 4 + (a : Int) / 32 * 4096 = ((put rd a : Nat) : Int) := by unfold put; omega
  have eb : 1 + (rd : Int) * 128 + (b : Int) % 32 * 4 + (b : Int) / 32 * 4096 = ((put rd b : Nat) : Int) := by unfold put; omega
  have la := put_lt rd a h1 h2
  have lb := put_lt rd b h1 h3
  have okb := (put_apart rd b h1 h3).2
  have OKB := Lib.hid okb
  have HS := Lib.hid hsame
  clear okb hsame
  go_enter Try.func5, Try.ntmps5
  go_wp2_with fail
  refine ra.mono ?_
  rintro e w1 ⟨rfl, g1⟩
  go_wp2_with fail
  refine (expand_c (put rd b) lb g1).mono ?_
  rintro e w2 ⟨rfl, g2⟩
  rw [OKB.out]
  have hs := HS.out
  go_wp2_with fail
  refine (heads_c g2).mono ?_
  rintro e w3 ⟨rfl, g3⟩
  go_wp2_with fail
  go_ret
  exact ⟨rfl, g3⟩
theorem walk (rd : Int) (_ : -9223372036854775808 ≤ rd ∧ rd ≤ 9223372036854775807) (a : Int) (_ : -9223372036854775808 ≤ a ∧ a ≤ 9223372036854775807) (b : Int) (_ : -9223372036854775808 ≤ b ∧ b ≤ 9223372036854775807) (w : World) :
    Calls Try.prog 5 #[.int .i64 rd, .int .i64 a, .int .i64 b] w fun e w' => e = .returned (.bool true) ∧ Below w.heap.size w w' := by
  by_cases h1 : rd < 0
  · skip
    go_enter Try.func5, Try.ntmps5
    go_wp2_with fail
    refine (heads_c (Grew.refl w)).mono ?_
    rintro e w3 ⟨rfl, g3⟩
    go_wp2_with fail
    go_ret
    exact ⟨rfl, g3⟩
  by_cases h2 : 31 < rd
  · skip
    go_enter Try.func5, Try.ntmps5
    go_wp2_with fail
    refine (heads_c (Grew.refl w)).mono ?_
    rintro e w3 ⟨rfl, g3⟩
    go_wp2_with fail
    go_ret
    exact ⟨rfl, g3⟩
  by_cases h3 : a < 0
  · skip
    go_enter Try.func5, Try.ntmps5
    go_wp2_with fail
    refine (heads_c (Grew.refl w)).mono ?_
    rintro e w3 ⟨rfl, g3⟩
    go_wp2_with fail
    go_ret
    exact ⟨rfl, g3⟩
  by_cases h4 : 63 < a
  · skip
    go_enter Try.func5, Try.ntmps5
    go_wp2_with fail
    refine (heads_c (Grew.refl w)).mono ?_
    rintro e w3 ⟨rfl, g3⟩
    go_wp2_with fail
    go_ret
    exact ⟨rfl, g3⟩
  by_cases h5 : b < 0
  · skip
    go_enter Try.func5, Try.ntmps5
    go_wp2_with fail
    refine (heads_c (Grew.refl w)).mono ?_
    rintro e w3 ⟨rfl, g3⟩
    go_wp2_with fail
    go_ret
    exact ⟨rfl, g3⟩
  by_cases h6 : 63 < b
  · skip
    go_enter Try.func5, Try.ntmps5
    go_wp2_with fail
    refine (heads_c (Grew.refl w)).mono ?_
    rintro e w3 ⟨rfl, g3⟩
    go_wp2_with fail
    go_ret
    exact ⟨rfl, g3⟩
  obtain ⟨rd, rfl⟩ := Int.eq_ofNat_of_zero_le (Int.not_lt.1 h1)
  obtain ⟨a, rfl⟩ := Int.eq_ofNat_of_zero_le (Int.not_lt.1 h3)
  obtain ⟨b, rfl⟩ := Int.eq_ofNat_of_zero_le (Int.not_lt.1 h5)
  exact walkInside rd a b (by omega) (by omega) (by omega) w

set_option maxRecDepth 100000 in
theorem lifted (os : Os) (started : os.Started) (H : Type) (enc : TypeId × Value → H) :
    ReturnsInHanded {} Try.checked os 5 .any (Rows.rvcApartSpec.pre6 enc Try.prog Try.f5 Rows.rvcApartRow.domain false) (Rows.rvcApartSpec.post enc Try.prog Try.f5 false true false false) := by
  refine returnsInHanded_of_change (C := Try.checked) own started (by kernel_rfl) Try.func5
    (ChangeSpec.witness6 (enc := enc) (C := Try.checked) false ⟨#[], #[.int .i64 0, .int .i64 0, .int .i64 0], []⟩ 8 (by kernel_rfl) (by kernel_rfl) (by kernel_rfl) (by kernel_rfl)) ?_
  intro W base args ds gs before hval0 hW _ _
  have hval : ∀ (j : Nat) t v, Try.f5.params[j]? = some t → args[j]? = some v → Value.okWide Try.prog W .any base t v := hval0
  have hW' := hW
  obtain ⟨p, q, hA0, hV, rfl, hfz, hnd⟩ := hW
  have hA : DataW.TrodAll enc Try.prog W 0 (fun _ => true) true Try.f5.params.toList args.toList ds p := hA0
  rw [Try.params5] at hA hval
  obtain ⟨v0, vs0, d0, ds0, p0, q0, hargs, rfl, rfl, h0, r'0⟩ := trodAll_cons hA
  obtain ⟨v1, vs1, d1, ds1, p1, q1, rfl, rfl, rfl, h1, r'1⟩ := trodAll_cons r'0
  obtain ⟨v2, vs2, d2, ds2, p2, q2, rfl, rfl, rfl, h2, r'2⟩ := trodAll_cons r'1
  obtain ⟨rfl, rfl, rfl⟩ := trodAll_nil r'2
  obtain rfl : args = #[v0, v1, v2] := by cases args; simp_all
  obtain ⟨a0, rfl, rfl, rfl, w0⟩ := open_int Try.underlying3 (hval 0 3 v0 rfl rfl) h0
  obtain ⟨a1, rfl, rfl, rfl, w1⟩ := open_int Try.underlying3 (hval 1 3 v1 rfl rfl) h1
  obtain ⟨a2, rfl, rfl, rfl, w2⟩ := open_int Try.underlying3 (hval 2 3 v2 rfl rfl) h2
  refine (walk a0 (wf_i64 w0) a1 (wf_i64 w1) a2 (wf_i64 w2) W).mono fun e W' ⟨he, hb⟩ => ?_
  subst he
  exact ⟨_, rfl, law_post hW' rfl rfl laid (by kernel_rfl) rfl Try.underlying4 hb⟩

theorem over : Rows.rvcApartRow.holds Try.pinned (OpenSpec.ofChange Rows.rvcApartSpec) :=
  OpenClaim.holds_of_wide 5 Try.f5 rfl rfl rfl rfl rfl rfl rfl ⟨rfl, rfl, rfl, rfl, rfl⟩ rfl rfl rfl rfl rfl (by kernel_rfl) Try.func5 (by kernel_rfl)
    (of_decide_eq_true (by kernel_rfl)) (by unfold Func.isWrapper; first | (rw [if_pos (by decide +kernel)]; kernel_rfl) | (rw [if_neg (by decide +kernel)]; exact ⟨rfl, rfl⟩))
    (fun os started H enc _ => lifted os started H enc)

theorem proved : Rows.RvcApartSaid := over
#print axioms proved
end Go.Proofs.Ytchogiglejnlhaa.rvcApart
