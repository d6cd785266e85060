/-
  Contracts of the document's own Put, Get, Same.
-/
import Derived.Test.YtnafdgpkofffaaaGreatDoorRows
import Derived.Test.YtnafdgpkofffaaaGreatDoorBitsB
import Derived.WalkKit
import Derived.Outline
import Derived.Deep.QuietTactic
import Derived.BigQuiet
import Derived.Deep.DeepCutAuto
import Derived.Deep.RegionWith
import Derived.Laws.AppendOwnNone
set_option maxRecDepth 4000
set_option linter.unusedVariables false
set_option linter.unusedSimpArgs false
namespace Go.Proofs.YtnafdgpkofffaaaGreatDoor
open Go.RowKit

/-! ### Strings of bytes -/
theorem convert_bytes {w : World} {v : Value} {xs : List Int} (h : BytesIn w v xs) : (convert 22 9 v).run Tryz.prog w = .ok (.string (strOfNums xs)) w := by
  rcases h with ⟨a, c, rfl, rfl⟩ | ⟨b, off, c, rfl, h⟩
  · rcases a with _ | a
    case some =>
      rw [run_convert_bytes_string w 22 9 5 _ 0 c Tryz.underlying22 Tryz.underlying5 Tryz.underlying9]
      rw [run_bytesToString w a 0 c [] (by rfl)]
      rfl
    rw [run_convert_bytes_nil w 22 5 Tryz.underlying22 Tryz.underlying5 0 c 9 Tryz.underlying9]; rfl
  · exact run_convert_bytes_arg w 22 5 Tryz.underlying22 Tryz.underlying5 b off xs.length c xs rfl h 9 Tryz.underlying9

theorem same_c {v u : Value} {xs : List Int} (w : World) (hv : BytesIn w v xs) (hu : BytesIn w u xs) :
    Calls Tryz.prog 13 #[v, u] w fun e w' => e = .returned (.bool true) ∧ w' = w := by
  have e1 := convert_bytes hv
  have e2 := convert_bytes hu
  clear hv hu
  go_enter Tryz.func13, Tryz.ntmps13
  go_wp2
  go_ret
  exact ⟨rfl, rfl⟩

/-! ### Get -/
/-- What k rounds have read, the highest byte first. -/
def getDown (xs : List Int) (n : Nat) (big : Bool) : Nat → Int
  | 0 => 0
  | k + 1 => getDown xs n big k * 256 + xs.getD (placeV ((n - 1 - k : Nat) : Int) n big).toNat 0
theorem getDown_to (xs : List Int) (n : Nat) (big : Bool) (k : Nat) (hk : k ≤ n) : getTo xs n big n = getDown xs n big k * 2 ^ (8 * (n - k)) + getTo xs n big (n - k) := by
  induction k with
  | zero => simp [getDown]
  | succ k ih =>
    rw [ih (by omega), show n - k = (n - (k + 1)) + 1 by omega]
    rw [getDown, getTo, pow8_succ, show n - 1 - k = n - (k + 1) by omega, Int.add_mul, Int.mul_comm (2 ^ (8 * (n - (k + 1)))) 256, ← Int.mul_assoc]
    omega
theorem getDown_full (xs : List Int) (n : Nat) (big : Bool) : getDown xs n big n = getTo xs n big n := by
  have h := getDown_to xs n big n (Nat.le_refl _)
  rw [h]; simp [getTo]
theorem getDown_lt {xs : List Int} (h : AreBytes xs) (n : Nat) (big : Bool) (k : Nat) : 0 ≤ getDown xs n big k ∧ getDown xs n big k < 2 ^ (8 * k) := by
  induction k with
  | zero => simp [getDown]
  | succ k ih =>
    have hb := h.getD (placeV ((n - 1 - k : Nat) : Int) n big).toNat
    rw [pow8_succ]
    unfold getDown
    omega

set_option maxHeartbeats 400000 in
theorem refGet_in (b off c : Nat) (xs : List Int) (n : Nat) (big : Bool) (hx : AreBytes xs) (hn : n = min xs.length 8) (hlen : xs.length ≤ 9223372036854775807) (w : World) (hw : BytesAt w b off xs) :
    Calls Tryz.prog 48 #[.slice (some ⟨b, off, none⟩) xs.length c, .bool big] w fun e w' => e = .returned (.int .u64 (getV xs big)) ∧ w' = w := by
  have hv : getV xs big = getDown xs n big n := by rw [getDown_full, hn]; rfl
  rw [hv]
  clear hv
  have hn8 : n ≤ 8 := by omega
  have hnl : n ≤ xs.length := by omega
  have hn' : (n : Int) = min (xs.length : Int) 8 := by omega
  have HN := Lib.hid hn'
  clear hn hn'
  go_enter Tryz.func48, Tryz.ntmps48
  go_upto_region 2 with fail
  go_cut [6] (fun s6 wx => s6 = .int .i64 n ∧ wx = w)
  case first =>
    go_wp2_with fail
    all_goals (go_meet; exact ⟨by rw [HN.out]; congr 1; omega, rfl⟩)
  case rest =>
    obtain ⟨rfl, rfl⟩ := hcut
    go_wp2_with fail
    go_loop [5, 7] (fun x i => ∃ k : Nat, k ≤ n ∧ i = .int .i64 k ∧ x = .int .u64 (getDown xs n big k)) (fun _ i => n - (intOf i).toNat)
    case atStart => exact ⟨0, Nat.zero_le _, rfl, rfl⟩
    case round =>
      obtain ⟨k, hk, rfl, rfl⟩ := hrel
      by_cases hlt : k < n
      · obtain ⟨p, hp⟩ : ∃ p : Nat, p = (placeV ((n - 1 - k : Nat) : Int) n big).toNat := ⟨_, rfl⟩
        have hpn : p < n := by cases big <;> simp [placeV] at hp <;> omega
        have hcell := hw p (by omega)
        have hb := hx.getD p
        have hd := getDown_lt hx n big k
        have hd2 := (pow_le_pow' (m := 8 * k) (n := 56) (by omega))
        have hs : getDown xs n big (k + 1) = getDown xs n big k * 256 + xs.getD p 0 := by rw [hp]; rfl
        have hd3 : getDown xs n big k ≤ 72057594037927935 := by
          have : (2 : Int) ^ 56 = 72057594037927936 := by decide
          omega
        have hd0 := hd.1
        clear hd hd2
        generalize hq : xs.getD p 0 = q at *
        have HS := Lib.hid hs
        clear hw hx hq hs
        cases big
        · have hpe : p = n - 1 - k := by simp [placeV] at hp; omega
          subst hpe
          clear hp
          have m1 : (n : Int) - 1 - k = ((n - 1 - k : Nat) : Int) := by omega
          have m2 : ((n - 1 - k : Nat) : Int) < xs.length := by omega
          go_wp2_with fail
          go_round
          case rel => exact ⟨k + 1, by omega, by go_num, by rw [HS.out]⟩
          case measure => simp [intOf]; omega
        · have hpe : p = k := by simp [placeV] at hp; omega
          subst hpe
          clear hp
          go_wp2_with fail
          go_round
          case rel => exact ⟨p + 1, by omega, by go_num, by rw [HS.out]⟩
          case measure => simp [intOf]; omega
      · obtain rfl : k = n := by omega
        go_wp2
        go_ret
        exact ⟨rfl, rfl⟩

theorem get_nil (a : Option Addr) (c : Nat) (big : Bool) (w : World) :
    Calls Tryz.prog 47 #[.slice a 0 c, .bool big] w fun e w' => e = .returned (.int .u64 0) ∧ w' = w := by
  go_enter Tryz.func47, Tryz.ntmps47
  go_wp2_with fail
  refine wp_loop_rounds 1 ?_
  rw [rounds_succ]
  go_wp2_with fail
  go_ret
  exact ⟨rfl, rfl⟩
theorem refGet_nil (a : Option Addr) (c : Nat) (big : Bool) (w : World) :
    Calls Tryz.prog 48 #[.slice a 0 c, .bool big] w fun e w' => e = .returned (.int .u64 0) ∧ w' = w := by
  go_enter Tryz.func48, Tryz.ntmps48
  go_wp2_with fail
  refine wp_loop_rounds 1 ?_
  rw [rounds_succ]
  go_wp2_with fail
  go_ret
  exact ⟨rfl, rfl⟩
/-- Get, of whatever reads as bytes. -/
theorem get_c {v : Value} {xs : List Int} (big : Bool) (hx : AreBytes xs) (hlen : xs.length ≤ 9223372036854775807) (w : World) (hv : BytesIn w v xs) :
    Calls Tryz.prog 47 #[v, .bool big] w fun e w' => e = .returned (.int .u64 (getV xs big)) ∧ w' = w := by
  rcases hv with ⟨a, c, rfl, rfl⟩ | ⟨b, off, c, rfl, h⟩
  · exact get_nil a c big w
  · exact get_in b off c xs _ big hx rfl hlen w h
theorem refGet_c {v : Value} {xs : List Int} (big : Bool) (hx : AreBytes xs) (hlen : xs.length ≤ 9223372036854775807) (w : World) (hv : BytesIn w v xs) :
    Calls Tryz.prog 48 #[v, .bool big] w fun e w' => e = .returned (.int .u64 (getV xs big)) ∧ w' = w := by
  rcases hv with ⟨a, c, rfl, rfl⟩ | ⟨b, off, c, rfl, h⟩
  · exact refGet_nil a c big w
  · exact refGet_in b off c xs _ big hx rfl hlen w h

/-! ### Put -/
/-- What k rounds have put together. -/
def refPutTo (x : Int) (big : Bool) : Nat → List Int
  | 0 => []
  | k + 1 => if big then byteV x k :: refPutTo x big k else refPutTo x big k ++ [byteV x k]
theorem refPutTo_length (x : Int) (big : Bool) (k : Nat) : (refPutTo x big k).length = k := by
  induction k with
  | zero => rfl
  | succ k ih => unfold refPutTo; split <;> simp [ih]
theorem refPutTo_low (x : Int) (k : Nat) : refPutTo x false k = (List.range k).map fun i : Nat => byteV x i := by
  induction k with
  | zero => rfl
  | succ k ih => simp [refPutTo, ih, List.range_succ]
theorem refPutTo_get (x : Int) (k : Nat) (j : Nat) (hj : j < k) : (refPutTo x true k)[j]? = some (byteV x (k - 1 - j)) := by
  induction k generalizing j with
  | zero => omega
  | succ k ih =>
    cases j with
    | zero => simp [refPutTo]
    | succ j =>
      simp only [refPutTo, if_true, List.getElem?_cons_succ]
      rw [ih j (by omega)]
      congr 2
      omega
theorem refPutTo_full (x : Int) (big : Bool) (n : Nat) : refPutTo x big n = putL x n big := by
  cases big
  · rw [refPutTo_low]; simp [putL, placeV]
  · apply List.ext_getElem?
    intro j
    by_cases hj : j < n
    · rw [refPutTo_get x n j hj]
      simp [putL, placeV, hj]
    · rw [List.getElem?_eq_none (by rw [refPutTo_length]; omega), List.getElem?_eq_none (by simp [putL]; omega)]

theorem own_ge {w : World} {base : Nat} {e : TypeId} {size n : Nat} {v : Value} {xs : List Value} (h : w.ownsRow base e size v n xs) : ∀ g, v.ownBlock = some g → base ≤ g := by
  intro g hg
  rcases h.2 with ⟨rfl, _⟩ | ⟨g', cap, cur, rfl, hb, _⟩
  · simp [Value.ownBlock] at hg
  · simp [Value.ownBlock] at hg; omega
/-- A block of one cell, made just now. -/
theorem new_one (w : World) (v : Value) (t : TypeId) : ∀ (j : Nat) (u : Value), [v][j]? = some u → (w.alloc (.cells #[v] t)).cell? ((⟨w.heap.size, 0, none⟩ : Addr).add j) = some u := by
  intro j u hj
  match j, hj with
  | 0, hj =>
    simp at hj
    subst hj
    exact cell_of_one (heap_alloc_new w _)

set_option maxHeartbeats 1000000 in
theorem refPut_low (x s : Int) (n : Nat) (hx0 : 0 ≤ x) (hx1 : x < 18446744073709551616) (hs : (n : Int) = max 0 (min s 8)) (w : World) :
    Calls Tryz.prog 46 #[.int .u64 x, .int .i64 s, .bool false] w fun e w' => ∃ v, e = .returned v ∧
      w'.ownsRow w.heap.size 5 1 v n ((putL x n false).map (Value.int .u8)) ∧ Below w.heap.size w w' := by
  obtain ⟨i0, hi, hz0, hz1, hz2⟩ := info_parts u8_info
  have hn8 : n ≤ 8 := by omega
  have hlt1 : ∀ k : Nat, k < n → (k : Int) < s ∧ (k : Int) < 8 := fun k hk => by omega
  have hge1 : ∀ k : Nat, ¬ k < n → s ≤ (k : Int) ∨ (8 : Int) ≤ k := fun k hk => by omega
  have H1 := Lib.hid hlt1
  have H2 := Lib.hid hge1
  clear hlt1 hge1 hs
  rw [← refPutTo_full]
  obtain ⟨B, hB⟩ : ∃ B, B = w.heap.size := ⟨_, rfl⟩
  rw [← hB]
  have HB := Lib.hid hB
  clear hB
  go_enter Tryz.func46, Tryz.ntmps46
  go_wp2_with fail
  go_loopw [7, 8] (fun v i wr => ∃ k : Nat, k ≤ n ∧ i = .int .i64 k ∧ wr.ownsRow B 5 1 v k ((refPutTo x false k).map (Value.int .u8)) ∧ Below B w wr) (fun _ i _ => n - (intOf i).toNat)
  case atStart => exact ⟨0, Nat.zero_le _, rfl, World.ownsRow_nil _ _ _ _, Below.refl _ _⟩
  case round =>
    obtain ⟨k, hk, rfl, hown, hbw⟩ := hrel
    by_cases hlt : k < n
    · obtain ⟨l1, l2⟩ := H1.out k hlt
      have hpp := div_pow_lt x (8 * k) hx0 hx1
      have m1 : IntKind.i64.wrap (8 * (k : Int)) = 8 * (k : Int) := IntWalk.i64_in _ (by omega)
      have m2 : 0 ≤ 8 * (k : Int) := by omega
      have m3 : (8 * (k : Int)).toNat = 8 * k := by omega
      go_wp2_with (refine wpList_append_own _ rfl (.tmp 30) (.tmp 32) 22 rfl B 5 i0 _ 1 1 Tryz.underlying22 hi hz0 hz1 hz2 rfl (by decide) _ k _ rfl (hown.alloc _) ⟨wr.heap.size, 0, none⟩ 1 1 [.int .u8 (byteV x k)] rfl rfl ?c1 ?c2 ?c3 ?c4 ?c5 ?_)
      case c1 => exact new_one _ _ _
      case c2 => exact ints_oneCell .u8 [byteV x k]
      case c3 => unfold maxLen; omega
      case c4 => omega
      case c5 => have := hbw.size; have := HB.out; simp; omega
      intro v' w1 hown1 hg1 _
      have HO := Lib.hid hown1
      have hb1 : Below B w w1 := (hbw.alloc (by have := hbw.size; have := HB.out; omega) _).grown hg1 (by have := hbw.size; have := HB.out; simp; omega) (fun g hg => own_ge hown g hg)
      have HW := Lib.hid hb1
      clear hown1 hg1 hb1 hown hbw
      go_wp2_with fail
      go_roundw
      case rel => exact ⟨k + 1, by omega, by go_num, by have h := HO.out; simpa [refPutTo] using h, HW.out⟩
      case measure => simp [intOf]; omega
    · obtain rfl : k = n := by omega
      rcases H2.out k hlt with l1 | l1
      · go_wp2
        go_ret
        exact ⟨_, rfl, hown, by rw [HB.out] at hbw ⊢; exact hbw⟩
      · by_cases l2 : (k : Int) < s
        · go_wp2
          go_ret
          exact ⟨_, rfl, hown, by rw [HB.out] at hbw ⊢; exact hbw⟩
        · go_wp2
          go_ret
          exact ⟨_, rfl, hown, by rw [HB.out] at hbw ⊢; exact hbw⟩

set_option maxHeartbeats 1000000 in
theorem refPut_high (x s : Int) (n : Nat) (hx0 : 0 ≤ x) (hx1 : x < 18446744073709551616) (hs : (n : Int) = max 0 (min s 8)) (w : World) :
    Calls Tryz.prog 46 #[.int .u64 x, .int .i64 s, .bool true] w fun e w' => ∃ v, e = .returned v ∧
      w'.ownsRow w.heap.size 5 1 v n ((putL x n true).map (Value.int .u8)) ∧ Below w.heap.size w w' := by
  obtain ⟨i0, hi, hz0, hz1, hz2⟩ := info_parts u8_info
  have hn8 : n ≤ 8 := by omega
  have hlt1 : ∀ k : Nat, k < n → (k : Int) < s ∧ (k : Int) < 8 := fun k hk => by omega
  have hge1 : ∀ k : Nat, ¬ k < n → s ≤ (k : Int) ∨ (8 : Int) ≤ k := fun k hk => by omega
  have H1 := Lib.hid hlt1
  have H2 := Lib.hid hge1
  clear hlt1 hge1 hs
  rw [← refPutTo_full]
  obtain ⟨B, hB⟩ : ∃ B, B = w.heap.size := ⟨_, rfl⟩
  rw [← hB]
  have HB := Lib.hid hB
  clear hB
  go_enter Tryz.func46, Tryz.ntmps46
  go_wp2_with fail
  go_loopw [7, 8] (fun v i wr => ∃ k : Nat, k ≤ n ∧ i = .int .i64 k ∧ (k = 0 → v = .slice none 0 0) ∧ wr.ownsRow B 5 1 v k ((refPutTo x true k).map (Value.int .u8)) ∧ Below B w wr) (fun _ i _ => n - (intOf i).toNat)
  case atStart => exact ⟨0, Nat.zero_le _, rfl, fun _ => rfl, World.ownsRow_nil _ _ _ _, Below.refl _ _⟩
  case round =>
    obtain ⟨k, hk, rfl, hnil, hown, hbw⟩ := hrel
    by_cases hlt : k < n
    · obtain ⟨l1, l2⟩ := H1.out k hlt
      have hpp := div_pow_lt x (8 * k) hx0 hx1
      have m1 : IntKind.i64.wrap (8 * (k : Int)) = 8 * (k : Int) := IntWalk.i64_in _ (by omega)
      have m2 : 0 ≤ 8 * (k : Int) := by omega
      have m3 : (8 * (k : Int)).toNat = 8 * k := by omega
      have hnew : ∀ c, (wr.alloc (.cells #[.int .u8 c] 5)).ownsRow B 5 1 (.slice (some ⟨wr.heap.size, 0, none⟩) 1 1) 1 [.int .u8 c] := fun c =>
        World.ownsRow_lit wr #[.int .u8 c] 1 (by have := hbw.size; have := HB.out; omega) (by unfold maxLen; omega) rfl
      have HNEW := Lib.hid hnew
      have HOWN := Lib.hid hown
      have HBW := Lib.hid hbw
      by_cases hk0 : k = 0
      · subst hk0
        obtain rfl := hnil rfl
        clear hnew hown hbw hnil
        go_wp2_with (refine wpList_append_own_none rfl (.tmp 27) (.tmp 28) 22 rfl B 5 i0 1 Tryz.underlying22 hi _ 1 _ rfl (HNEW.out _) rfl ?_)
        go_roundw
        case rel => exact ⟨1, by omega, by go_num, fun h => absurd h (by omega), by have h := HNEW.out (x % 256); simpa [refPutTo, byteV] using h, HBW.out.alloc (by have := HBW.out.size; have := HB.out; omega) _⟩
        case measure => simp [intOf]; omega
      · rcases hown.2 with ⟨rfl, h0⟩ | ⟨g, cap, cur, rfl, hge, _⟩
        · exact absurd h0 hk0
        · clear hnew hown hbw hnil
          go_wp2_with (refine wpList_append_own _ rfl (.tmp 27) (.tmp 28) 22 rfl B 5 i0 _ 1 1 Tryz.underlying22 hi hz0 hz1 hz2 rfl (by decide) _ 1 _ rfl (HNEW.out _) ⟨g, 0, none⟩ k cap ((refPutTo x true k).map (Value.int .u8)) rfl (by simp [refPutTo_length]) ?c1 ?c2 ?c3 ?c4 ?c5 ?_)
          case c1 => exact (HOWN.out.alloc _).cells rfl
          case c2 => exact ints_oneCell .u8 _
          case c3 => unfold maxLen; omega
          case c4 => omega
          case c5 => have := HBW.out.size; have := HB.out; simp; omega
          intro v' w1 hown1 hg1 _
          have HO := Lib.hid hown1
          have hb1 : Below B w w1 := (HBW.out.alloc (by have := HBW.out.size; have := HB.out; omega) _).grown hg1 (by have := HBW.out.size; have := HB.out; simp; omega) (fun g hg => own_ge (HNEW.out (byteV x k)) g hg)
          have HW := Lib.hid hb1
          clear hown1 hg1 hb1
          go_wp2_with fail
          go_roundw
          case rel => exact ⟨k + 1, by omega, by go_num, fun h => absurd h (by omega), by have h := HO.out; rw [Nat.add_comm 1 k] at h; simpa [refPutTo, byteV] using h, HW.out⟩
          case measure => simp [intOf]; omega
    · obtain rfl : k = n := by omega
      clear hnil
      rcases H2.out k hlt with l1 | l1
      · go_wp2
        go_ret
        exact ⟨_, rfl, hown, by rw [HB.out] at hbw ⊢; exact hbw⟩
      · by_cases l2 : (k : Int) < s
        · go_wp2
          go_ret
          exact ⟨_, rfl, hown, by rw [HB.out] at hbw ⊢; exact hbw⟩
        · go_wp2
          go_ret
          exact ⟨_, rfl, hown, by rw [HB.out] at hbw ⊢; exact hbw⟩
theorem refPut_c (x s : Int) (big : Bool) (hx0 : 0 ≤ x) (hx1 : x < 18446744073709551616) (w : World) :
    Calls Tryz.prog 46 #[.int .u64 x, .int .i64 s, .bool big] w fun e w' => ∃ v, e = .returned v ∧
      w'.ownsRow w.heap.size 5 1 v (max 0 (min s 8)).toNat ((putL x (max 0 (min s 8)).toNat big).map (Value.int .u8)) ∧ Below w.heap.size w w' := by
  cases big
  · exact refPut_low x s _ hx0 hx1 (by omega) w
  · exact refPut_high x s _ hx0 hx1 (by omega) w

/-! ### What a call makes -/
/-- The value v, made by the call, reads as these bytes; what was there is as it was. -/
structure NewBytes (w w' : World) (v : Value) (xs : List Int) : Prop where
  bytes : BytesIn w' v xs
  lt : ∀ g, v.ownBlock = some g → g < w'.heap.size
  below : Below w.heap.size w w'
theorem own_lt {w : World} {base : Nat} {e : TypeId} {size n : Nat} {v : Value} {xs : List Value} (h : w.ownsRow base e size v n xs) : ∀ g, v.ownBlock = some g → g < w.heap.size := by
  intro g hg
  rcases h.2 with ⟨rfl, _⟩ | ⟨g', cap, cur, rfl, _, hh, _⟩
  · simp [Value.ownBlock] at hg
  · simp [Value.ownBlock] at hg
    subst hg
    exact lt_of_block hh
theorem put_new (x s : Int) (big : Bool) (hx0 : 0 ≤ x) (hx1 : x < 18446744073709551616) (w : World) :
    Calls Tryz.prog 44 #[.int .u64 x, .int .i64 s, .bool big] w fun e w' => ∃ v, e = .returned v ∧ NewBytes w w' v (putL x (max 0 (min s 8)).toNat big) :=
  (put_c x s big hx0 hx1 w).mono fun _ _ ⟨he, ho, hb⟩ => ⟨_, he, BytesIn.of_own ho, own_lt ho, hb⟩
theorem refPut_new (x s : Int) (big : Bool) (hx0 : 0 ≤ x) (hx1 : x < 18446744073709551616) (w : World) :
    Calls Tryz.prog 46 #[.int .u64 x, .int .i64 s, .bool big] w fun e w' => ∃ v, e = .returned v ∧ NewBytes w w' v (putL x (max 0 (min s 8)).toNat big) :=
  (refPut_c x s big hx0 hx1 w).mono fun _ _ ⟨v, he, ho, hb⟩ => ⟨v, he, BytesIn.of_own ho, own_lt ho, hb⟩
theorem NewBytes.alloc {w w' : World} {v : Value} {xs : List Int} (h : NewBytes w w' v xs) (o : Obj) : NewBytes w (w'.alloc o) v xs :=
  ⟨h.bytes.below ((Below.refl w'.heap.size w').alloc (Nat.le_refl _) o) h.lt, fun g hg => by have := h.lt g hg; simp; omega, h.below.alloc h.below.size o⟩
theorem NewBytes.later {w w' w2 : World} {v : Value} {xs : List Int} (h : NewBytes w w' v xs) (hb : Below w'.heap.size w' w2) : NewBytes w w2 v xs :=
  ⟨h.bytes.below hb h.lt, fun g hg => by have := h.lt g hg; have := hb.size; omega, h.below.trans (hb.mono h.below.size)⟩
end Go.Proofs.YtnafdgpkofffaaaGreatDoor
