/-
  Plain facts for the laws of layer 19.
-/
import Derived.Test.YtiaejlbkdgcfiaaSgN
import Derived.Test.YtiaejlbkdgcfiaaTwo
set_option maxRecDepth 4000
set_option linter.unusedVariables false
set_option linter.unusedSimpArgs false
namespace Go.Proofs.Ytiaejlbkdgcfiaa
open Go.RowKit

/-! ### A segment with options of whatever kind -/
/-- What stands between the flags and the options. -/
def midSG (f : SGR) (o : List Int) (c1 c2 : Int) : List Int := [80 + 4 * (o.length : Int), f.fl] ++ putL f.wn 2 true ++ [c1, c2, 0, 0]
def rawO (f : SGR) (o : List Int) : List Int := pre12 f ++ [80 + 4 * (o.length : Int), f.fl] ++ putL f.wn 2 true ++ [0, 0, 0, 0] ++ o ++ f.x
def sumO (f : SGR) (o : List Int) (src dst : Int) : Int := sumV (psSG src dst (20 + o.length + f.x.length) ++ rawO f o)
def sgO (f : SGR) (o : List Int) (src dst : Int) : List Int := putTwo (rawO f o) 16 (sumO f o src dst / 256) (sumO f o src dst % 256)
theorem sgO_op (f : SGR) (src dst : Int) : sgO f (opSG f) src dst = putSG f src dst := rfl
theorem rawO_len (f : SGR) (o : List Int) : (rawO f o).length = 20 + o.length + f.x.length := by
  unfold rawO
  simp only [List.length_append, pre12_len, putB_len, List.length_cons, List.length_nil]
theorem rawO_mid (f : SGR) (o : List Int) : rawO f o = pre12 f ++ (midSG f o 0 0 ++ (o ++ f.x)) := by
  unfold rawO midSG
  simp
theorem midSG_len (f : SGR) (o : List Int) (c1 c2 : Int) : (midSG f o c1 c2).length = 8 := by simp [midSG, putB_len]
theorem sgO_mid (f : SGR) (o : List Int) (src dst : Int) : sgO f o src dst = pre12 f ++ (midSG f o (sumO f o src dst / 256) (sumO f o src dst % 256) ++ (o ++ f.x)) := by
  unfold sgO
  generalize sumO f o src dst / 256 = c1
  generalize sumO f o src dst % 256 = c2
  rw [rawO_mid]
  have h := putTwo_right (a := pre12 f) (b := midSG f o 0 0 ++ (o ++ f.x)) (k := 4) c1 c2
  rw [pre12_len] at h
  rw [h]
  congr 1
theorem rawO_ok {f : SGR} {o : List Int} (h : okSG f = true) (hx : AreBytes f.x) (ho : o.length ≤ 40) (hoo : AreBytes o) : AreBytes (rawO f o) := by
  have hk := okSG_spec h
  exact (((((pre12_ok f).append (two_ok _ _ (by omega) (by omega))).append (putB_ok _ _ _)).append zeros4_ok).append hoo).append hx
theorem sumO_lt (f : SGR) (o : List Int) (src dst : Int) : 0 ≤ sumO f o src dst ∧ sumO f o src dst ≤ 65535 := sumV_lt _
theorem sgO_len (f : SGR) (o : List Int) (src dst : Int) : (sgO f o src dst).length = 20 + o.length + f.x.length := by
  have hl := rawO_len f o
  unfold sgO
  rw [putTwo_len _ _ (by rw [hl]; omega), hl]
theorem sgO_ok {f : SGR} {o : List Int} (h : okSG f = true) (hx : AreBytes f.x) (ho : o.length ≤ 40) (hoo : AreBytes o) (src dst : Int) : AreBytes (sgO f o src dst) := by
  have := sumO_lt f o src dst
  exact putTwo_ok (rawO_ok h hx ho hoo) 16 (by omega) (by omega)
theorem rawO_zero (f : SGR) (o : List Int) : (rawO f o).getD 16 0 = 0 ∧ (rawO f o).getD 17 0 = 0 := by
  have hp : (putL f.wn 2 true).length = 2 := putB_len ..
  have hq := pre12_len f
  obtain ⟨x, y, e⟩ : ∃ x y, putL f.wn 2 true = [x, y] := by
    match hz : putL f.wn 2 true, hp with
    | [x, y], _ => exact ⟨x, y, rfl⟩
  rw [rawO_mid]
  unfold midSG
  rw [e]
  constructor
  · rw [get_mid _ _ 16 (by omega), hq]; rfl
  · rw [get_mid _ _ 17 (by omega), hq]; rfl
/-- With the checksum in its place all adds up. -/
theorem sgO_sum {f : SGR} {o : List Int} (h : okSG f = true) (hx : AreBytes f.x) (ho : o.length ≤ 40) (hoo : AreBytes o) (src dst : Int) : sumV (psSG src dst (20 + o.length + f.x.length) ++ sgO f o src dst) = 0 := by
  have hl : (psSG src dst (20 + o.length + f.x.length)).length = 12 := psSG_len ..
  have hr := rawO_len f o
  have hz := rawO_zero f o
  have hs := sum_patched (xs := psSG src dst (20 + o.length + f.x.length) ++ rawO f o) ((psSG_ok _ _ _).append (rawO_ok h hx ho hoo)) (m := 14) (by rw [List.length_append, hl, hr]; omega)
    (by rw [get_mid _ _ _ (by omega), hl]; exact hz.1) (by rw [get_mid _ _ _ (by omega), hl]; exact hz.2)
  have hp := putTwo_right (a := psSG src dst (20 + o.length + f.x.length)) (b := rawO f o) (k := 16) (sumO f o src dst / 256) (sumO f o src dst % 256)
  rw [hl] at hp
  change sumV (putTwo _ (12 + 16) _ _) = 0 at hs
  unfold sgO
  rw [← hp]
  exact hs
theorem getV_four (x : Int) (h : 0 ≤ x ∧ x < 4294967296) : getV (putL x 4 true) true = x := getV_putG_eq (by omega) true h.1 (by rw [show (2 : Int) ^ (8 * 4) = 4294967296 by decide]; exact h.2)
theorem getV_twoP (x : Int) (h : 0 ≤ x ∧ x ≤ 65535) : getV (putL x 2 true) true = x := getV_putG_eq (by omega) true h.1 (by rw [show (2 : Int) ^ (8 * 2) = 65536 by decide]; omega)
theorem hoSG_O {f : SGR} {o : List Int} (h4 : o.length % 4 = 0) (ho : o.length ≤ 40) (src dst : Int) : hoSG (sgO f o src dst) = 20 + o.length := by
  unfold hoSG
  rw [sgO_mid, get_mid _ _ 12 (by rw [pre12_len]; omega), pre12_len]
  show ((80 + 4 * (o.length : Int)) / 16).toNat * 4 = _
  omega
theorem got_sgO {f : SGR} {o : List Int} (h : okSG f = true) (hq : 0 ≤ f.q ∧ f.q < 4294967296) (ha : 0 ≤ f.a ∧ f.a < 4294967296) (hx : AreBytes f.x) (h4 : o.length % 4 = 0) (ho : o.length ≤ 40) (hoo : AreBytes o) (hm : mssV o = (f.m, true)) (src dst : Int) :
    getSGE (sgO f o src dst) src dst = 0 ∧ getSG (sgO f o src dst) src dst = f := by
  obtain ⟨k1, k2, k3, k4, k5, k6⟩ := okSG_spec h
  have hl := sgO_len f o src dst
  have hho := hoSG_O (f := f) h4 ho src dst
  have hs := sgO_sum h hx ho hoo src dst
  have hpl := pre12_len f
  obtain ⟨c1, c2, hmid⟩ : ∃ c1 c2, sgO f o src dst = pre12 f ++ (midSG f o c1 c2 ++ (o ++ f.x)) := ⟨_, _, sgO_mid f o src dst⟩
  have hml := midSG_len f o c1 c2
  have hop : cutL (sgO f o src dst) 20 (20 + o.length) = o := by
    rw [hmid, ← List.append_assoc]
    exact cut_mid (pre12 f ++ _) o f.x _ _ (by rw [List.length_append, hpl, hml]) (by rw [List.length_append, hpl, hml])
  have he : getSGE (sgO f o src dst) src dst = 0 := by
    unfold getSGE
    rw [hl, hho, hs, hop, hm]
    rw [if_neg (by omega), if_neg (by omega), if_neg (by omega), if_neg (by simp), if_neg (by simp)]
  refine ⟨he, ?_⟩
  unfold getSG
  rw [if_pos he]
  unfold sgOf
  rw [hho, hl, hop, hm]
  have hx' : cutL (sgO f o src dst) (20 + o.length) (20 + o.length + f.x.length) = f.x := by
    have e := cut_mid (pre12 f ++ (midSG f o c1 c2 ++ o)) f.x [] (20 + o.length) (20 + o.length + f.x.length) (by simp only [List.length_append, hpl, hml]; omega) (by simp only [List.length_append, hpl, hml]; omega)
    rw [List.append_nil] at e
    rw [hmid, show pre12 f ++ (midSG f o c1 c2 ++ (o ++ f.x)) = pre12 f ++ (midSG f o c1 c2 ++ o) ++ f.x by simp only [List.append_assoc]]
    exact e
  rw [hx', hmid]
  have d0 : cutL (pre12 f ++ (midSG f o c1 c2 ++ (o ++ f.x))) 0 2 = putL f.s 2 true := by
    rw [cutL_left _ _ _ _ (by omega)]
    unfold pre12
    have := cut_mid [] (putL f.s 2 true) (putL f.d 2 true ++ (putL f.q 4 true ++ putL f.a 4 true)) 0 2 rfl (by simp [putB_len])
    simpa using this
  have d1 : cutL (pre12 f ++ (midSG f o c1 c2 ++ (o ++ f.x))) 2 4 = putL f.d 2 true := by
    rw [cutL_left _ _ _ _ (by omega)]
    unfold pre12
    have := cut_mid (putL f.s 2 true) (putL f.d 2 true) (putL f.q 4 true ++ putL f.a 4 true) 2 4 (by simp [putB_len]) (by simp [putB_len])
    simpa using this
  have d2 : cutL (pre12 f ++ (midSG f o c1 c2 ++ (o ++ f.x))) 4 8 = putL f.q 4 true := by
    rw [cutL_left _ _ _ _ (by omega)]
    unfold pre12
    have := cut_mid (putL f.s 2 true ++ putL f.d 2 true) (putL f.q 4 true) (putL f.a 4 true) 4 8 (by simp [putB_len]) (by simp [putB_len])
    simpa using this
  have d3 : cutL (pre12 f ++ (midSG f o c1 c2 ++ (o ++ f.x))) 8 12 = putL f.a 4 true := by
    rw [cutL_left _ _ _ _ (by omega)]
    unfold pre12
    have := cut_mid (putL f.s 2 true ++ putL f.d 2 true ++ putL f.q 4 true) (putL f.a 4 true) [] 8 12 (by simp [putB_len]) (by simp [putB_len])
    simpa using this
  have d4 : (pre12 f ++ (midSG f o c1 c2 ++ (o ++ f.x))).getD 13 0 = f.fl := by
    rw [get_mid _ _ 13 (by omega), hpl]
    rfl
  have d5 : cutL (pre12 f ++ (midSG f o c1 c2 ++ (o ++ f.x))) 14 16 = putL f.wn 2 true := by
    unfold midSG
    have := cut_mid (pre12 f ++ [80 + 4 * (o.length : Int), f.fl]) (putL f.wn 2 true) ([c1, c2, 0, 0] ++ (o ++ f.x)) 14 16 (by simp [hpl]) (by simp [hpl, putB_len])
    simpa using this
  rw [d0, d1, d2, d3, d4, d5, getV_twoP _ k1, getV_twoP _ k2, getV_four _ hq, getV_four _ ha, getV_twoP _ k3, show f.fl % 64 = f.fl by omega]
theorem mssV_op {f : SGR} (hm : 0 ≤ f.m ∧ f.m ≤ 65535) : mssV (opSG f) = (f.m, true) := by
  unfold opSG
  split
  · rename_i h; rw [h]; rfl
  · rw [put_two f.m hm.1 hm.2]
    show mssAt [2, 4, f.m / 256, f.m % 256] 0 0 false = _
    rw [mssAt_mss (by simp) (by simp) (by simp) (by simp) ⟨rfl, rfl, rfl⟩]
    rw [mssAt_end (by simp)]
    rw [show cutL [2, 4, f.m / 256, f.m % 256] (0 + 2) (0 + 4) = [f.m / 256, f.m % 256] from rfl, getV_two]
    congr 1
    omega
theorem get_put19 {f : SGR} (h : okSG f = true) (hq : 0 ≤ f.q ∧ f.q < 4294967296) (ha : 0 ≤ f.a ∧ f.a < 4294967296) (hx : AreBytes f.x) (src dst : Int) : getSGE (putSG f src dst) src dst = 0 ∧ getSG (putSG f src dst) src dst = f := by
  have hk := okSG_spec h
  have ho := opSG_len f
  rw [← sgO_op]
  exact got_sgO h hq ha hx (by omega) (by omega) (opSG_ok f) (mssV_op hk.2.2.2.1) src dst

/-! ### An address with its lowest bit turned -/
theorem xor_one (n : Nat) : n ^^^ 1 = if n % 2 = 0 then n + 1 else n - 1 := by
  have hd : (n ^^^ 1) / 2 = n / 2 := by rw [Nat.xor_div_two]; simp
  have hm : (n ^^^ 1).testBit 0 = (n.testBit 0 ^^ (1 : Nat).testBit 0) := Nat.testBit_xor n 1 0
  rw [Nat.testBit_zero, Nat.testBit_zero, Nat.testBit_zero] at hm
  by_cases h : n % 2 = 0
  · rw [if_pos h]
    have h1 : (n ^^^ 1) % 2 = 1 := by
      rw [show decide (n % 2 = 1) = false from decide_eq_false (by omega)] at hm
      simpa using hm
    omega
  · rw [if_neg h]
    have h1 : (n ^^^ 1) % 2 ≠ 1 := by
      rw [show decide (n % 2 = 1) = true from decide_eq_true (by omega)] at hm
      intro hh
      rw [show decide ((n ^^^ 1) % 2 = 1) = true from decide_eq_true hh] at hm
      simp at hm
    omega
theorem xor_u32 {src : Int} (h : 0 ≤ src ∧ src < 4294967296) : bits .xor .u32 src 1 = if src % 2 = 0 then src + 1 else src - 1 := by
  obtain ⟨n, rfl⟩ : ∃ n : Nat, src = n := ⟨src.toNat, by omega⟩
  have e : bits .xor .u32 (n : Int) 1 = ((n ^^^ 1 : Nat) : Int) := by
    have hx := xor_one n
    unfold bits
    show IntKind.u32.wrap (((BitVec.ofInt 32 (n : Int) ^^^ BitVec.ofInt 32 1).toNat : Nat) : Int) = _
    have e1 : (BitVec.ofInt 32 (n : Int) ^^^ BitVec.ofInt 32 1).toNat = n ^^^ 1 := by
      rw [BitVec.toNat_xor]
      simp only [BitVec.toNat_ofInt]
      congr 1
      omega
    rw [e1, IntKind.wrap_u32]
    split at hx <;> omega
  rw [e, xor_one]
  split <;> split <;> omega
theorem putL_four (x : Int) (h : 0 ≤ x) : putL x 4 true = [x / 16777216 % 256, x / 65536 % 256, x / 256 % 256, x % 256] := by
  have p : putL x 4 true = [byteV x 3, byteV x 2, byteV x 1, byteV x 0] := by kernel_rfl
  rw [p]
  unfold byteV
  simp
theorem turned_src {src : Int} (h : 0 ≤ src ∧ src < 4294967296) (dst : Int) (n : Nat) : ∃ v, 0 ≤ v ∧ v < 256 ∧ v - (psSG src dst n).getD 3 0 ≠ 0 ∧ v - (psSG src dst n).getD 3 0 < 255 ∧ -255 < v - (psSG src dst n).getD 3 0 ∧ psSG (bits .xor .u32 src 1) dst n = (psSG src dst n).set 3 v := by
  rw [xor_u32 h]
  unfold psSG pseudoV
  by_cases e : src % 2 = 0
  · rw [if_pos e, putL_four src h.1, putL_four (src + 1) (by omega)]
    refine ⟨(src + 1) % 256, by omega, by omega, ?_, ?_, ?_, ?_⟩
    · show (src + 1) % 256 - src % 256 ≠ 0; omega
    · show (src + 1) % 256 - src % 256 < 255; omega
    · show -255 < (src + 1) % 256 - src % 256; omega
    · rw [show (src + 1) / 16777216 % 256 = src / 16777216 % 256 by omega, show (src + 1) / 65536 % 256 = src / 65536 % 256 by omega, show (src + 1) / 256 % 256 = src / 256 % 256 by omega]
      rfl
  · rw [if_neg e, putL_four src h.1, putL_four (src - 1) (by omega)]
    refine ⟨(src - 1) % 256, by omega, by omega, ?_, ?_, ?_, ?_⟩
    · show (src - 1) % 256 - src % 256 ≠ 0; omega
    · show (src - 1) % 256 - src % 256 < 255; omega
    · show -255 < (src - 1) % 256 - src % 256; omega
    · rw [show (src - 1) / 16777216 % 256 = src / 16777216 % 256 by omega, show (src - 1) / 65536 % 256 = src / 65536 % 256 by omega, show (src - 1) / 256 % 256 = src / 256 % 256 by omega]
      rfl
theorem get_other {f : SGR} (h : okSG f = true) (hx : AreBytes f.x) {src : Int} (hs : 0 ≤ src ∧ src < 4294967296) (dst : Int) : getSGE (putSG f src dst) (bits .xor .u32 src 1) dst = 162 := by
  have hk := okSG_spec h
  have ho := opSG_len f
  have hl := putSG_len f src dst
  have hu : slN f = 20 + (opSG f).length + f.x.length := rfl
  have hho : hoSG (putSG f src dst) = 20 + (opSG f).length := by rw [← sgO_op]; exact hoSG_O (by omega) (by omega) src dst
  have hsum : sumV (psSG src dst (slN f) ++ putSG f src dst) = 0 := by rw [← sgO_op, hu]; exact sgO_sum h hx (by omega) (opSG_ok f) src dst
  obtain ⟨v, v0, v1, d0, d1, d2, e⟩ := turned_src hs dst (slN f)
  have hpl : (psSG src dst (slN f)).length = 12 := psSG_len ..
  have e2 : psSG (bits .xor .u32 src 1) dst (slN f) ++ putSG f src dst = (psSG src dst (slN f) ++ putSG f src dst).set 3 v := by
    rw [e, List.set_append_left _ _ (by omega)]
  have hg : (psSG src dst (slN f) ++ putSG f src dst).getD 3 0 = (psSG src dst (slN f)).getD 3 0 := by
    rw [List.getD_eq_getElem?_getD, List.getElem?_append_left (by omega), ← List.getD_eq_getElem?_getD]
  have hne : sumV (psSG (bits .xor .u32 src 1) dst (slN f) ++ putSG f src dst) ≠ 0 := by
    rw [e2]
    refine sumV_turned ?_ (by rw [List.length_append, hpl]; omega) (by rw [hg]; exact d0) (by rw [hg]; exact d1) (by rw [hg]; exact d2) hsum
    exact AreBytes.setAt ((psSG_ok _ _ _).append (putSG_ok h hx src dst)) 3 ⟨v0, v1⟩
  unfold getSGE
  rw [hl, hho, if_neg (by omega), if_neg (by omega), if_neg (by omega), if_pos hne]

/-! ### Options that nobody knows -/
theorem mss_ones (b : List Int) : ∀ k i n fd, b.length = i + k → (∀ j, i ≤ j → j < b.length → b.getD j 0 = 1) → mssAt b i n fd = (n, true)
  | 0, i, n, fd, h, _ => mssAt_end (by omega)
  | k + 1, i, n, fd, h, ho => by
    rw [mssAt_one (by omega) (ho i (Nat.le_refl _) (by omega))]
    exact mss_ones b k (i + 1) n fd (by omega) fun j h1 h2 => ho j (by omega) h2
/-- What SegOptions puts between head and Data. -/
def strange (kind : Int) (n : Nat) (r : Nat) : List Int := [1, kind, (n : Int) + 2] ++ List.replicate n 0 ++ List.replicate r 1
theorem strange_len (kind : Int) (n r : Nat) : (strange kind n r).length = 3 + n + r := by simp [strange]; omega
theorem strange_ok {kind : Int} (hk : 0 ≤ kind ∧ kind < 256) {n r : Nat} (hn : n ≤ 30) : AreBytes (strange kind n r) := fun z hz => by
  unfold strange at hz
  simp only [List.mem_append, List.mem_cons, List.not_mem_nil, or_false, List.mem_replicate] at hz
  omega
theorem strange_mss {kind : Int} (hk : 3 ≤ kind) {n r : Nat} (hn : n ≤ 30) : mssV (strange kind n r) = (0, true) := by
  have hl := strange_len kind n r
  show mssAt (strange kind n r) 0 0 false = _
  rw [mssAt_one (by omega) rfl]
  have g1 : (strange kind n r).getD 1 0 = kind := rfl
  have g2 : (strange kind n r).getD 2 0 = (n : Int) + 2 := rfl
  rw [mssAt_skip (by omega) (by rw [show 0 + 1 = 1 from rfl, g1]; omega) (by rw [show 0 + 1 = 1 from rfl, g1]; omega) (by rw [show 0 + 1 + 1 = 2 from rfl, g2]; omega) (by rw [show 0 + 1 = 1 from rfl, g1]; omega)]
  rw [show 0 + 1 + 1 = 2 from rfl, g2]
  refine mss_ones _ r _ _ _ (by omega) ?_
  intro j h1 h2
  unfold strange
  rw [get_mid _ _ j (by simp; omega)]
  rw [List.getD_eq_getElem?_getD, List.getElem?_replicate]
  rw [if_pos (by simp at *; omega)]
  rfl

theorem strange_more (kind : Int) (n r : Nat) : strange kind n r ++ [1] = strange kind n (r + 1) := by
  unfold strange
  rw [List.append_assoc, ← List.replicate_succ']
/-- A segment's bytes with options put between, and noughts in the checksum's place. -/
theorem strange_raw {f : SGR} (hm : f.m = 0) (o : List Int) (src dst : Int) :
    (((cutL (putSG f src dst) 0 20 ++ o ++ cutL (putSG f src dst) 20 (putSG f src dst).length).set 12 (80 + 4 * (o.length : Int))).set 16 0).set 17 0 = rawO f o := by
  have e0 : opSG f = [] := by unfold opSG; rw [if_pos hm]
  have hl := putSG_len f src dst
  have hpl := pre12_len f
  have hs : slN f = 20 + f.x.length := by unfold slN; rw [e0]; rfl
  obtain ⟨c1, c2, hmid⟩ : ∃ c1 c2, putSG f src dst = pre12 f ++ (midSG f [] c1 c2 ++ f.x) := ⟨_, _, by rw [← sgO_op, e0, sgO_mid]; rfl⟩
  have hml := midSG_len f [] c1 c2
  have d1 : cutL (putSG f src dst) 0 20 = pre12 f ++ midSG f [] c1 c2 := by
    rw [hmid, ← List.append_assoc, cutL_left _ _ _ _ (by simp [hpl, hml]), cutL_whole (by simp [hpl, hml])]
  have d2 : cutL (putSG f src dst) 20 (putSG f src dst).length = f.x := by
    have e := cut_mid (pre12 f ++ midSG f [] c1 c2) f.x [] 20 (20 + f.x.length) (by simp [hpl, hml]) (by simp [hpl, hml])
    rw [List.append_nil] at e
    rw [hl, hs, hmid, ← List.append_assoc]
    exact e
  rw [d1, d2, rawO_mid]
  have hp : (putL f.wn 2 true).length = 2 := putB_len ..
  unfold midSG
  obtain ⟨x, y, e⟩ : ∃ x y, putL f.wn 2 true = [x, y] := by
    match hq : putL f.wn 2 true, hp with
    | [x, y], _ => exact ⟨x, y, rfl⟩
  rw [e, List.append_assoc, List.append_assoc]
  rw [List.set_append_right _ _ (by omega), List.set_append_right _ _ (by omega), List.set_append_right _ _ (by omega), hpl]
  rfl
theorem strange_put {f : SGR} (o : List Int) (src dst : Int) : (patchV (psSG src dst (rawO f o).length ++ rawO f o) 28).drop 12 = sgO f o src dst := by
  have hr := rawO_len f o
  have hl : (psSG src dst (20 + o.length + f.x.length)).length = 12 := psSG_len ..
  have hz := rawO_zero f o
  have hp : isPairV (psSG src dst (20 + o.length + f.x.length) ++ rawO f o).length ((28 : Nat) : Int) = true := by unfold isPairV; rw [List.length_append, hl, hr]; exact decide_eq_true (by omega)
  rw [hr]
  rw [show (28 : Int) = ((28 : Nat) : Int) from rfl, patchV_yes 28 hp]
  have h0 : putTwo (psSG src dst (20 + o.length + f.x.length) ++ rawO f o) 28 0 0 = psSG src dst (20 + o.length + f.x.length) ++ rawO f o := by
    have := putTwo_same (xs := psSG src dst (20 + o.length + f.x.length) ++ rawO f o) (k := 28) (by rw [List.length_append, hl, hr]; omega)
    rwa [get_mid _ _ 28 (by omega), get_mid _ _ (28 + 1) (by omega), hl, hz.1, hz.2] at this
  rw [h0]
  have hq := putTwo_right (a := psSG src dst (20 + o.length + f.x.length)) (b := rawO f o) (k := 16) (sumO f o src dst / 256) (sumO f o src dst % 256)
  rw [hl] at hq
  change (putTwo _ (12 + 16) (sumO f o src dst / 256) (sumO f o src dst % 256)).drop 12 = _
  rw [hq, ← hl, List.drop_left]
  rfl

/-! ### Which number is ahead -/
theorem less_or {a b : Int} (ha : 0 ≤ a ∧ a < 4294967296) (hb : 0 ≤ b ∧ b < 4294967296) :
    (lessSG a b && lessSG b a) = false ∧ (lessSG a b = false → lessSG b a = false → a ≠ b → (b - a) % 4294967296 = 2147483648) ∧ (a = b → lessSG a b = false) := by
  unfold lessSG
  refine ⟨?_, ?_, ?_⟩
  · by_cases h1 : 1 ≤ (b - a) % 4294967296 ∧ (b - a) % 4294967296 < 2147483648
    · rw [decide_eq_true h1, decide_eq_false (by omega)]; rfl
    · rw [decide_eq_false h1]; rfl
  · intro h1 h2 h3
    simp only [decide_eq_false_iff_not] at h1 h2
    omega
  · intro h
    exact decide_eq_false (by omega)
theorem less_on {a n : Int} (hn : 0 ≤ n ∧ n < 4294967296) : lessSG a ((a + n) % 4294967296) = decide (1 ≤ n ∧ n < 2147483648) := by
  unfold lessSG
  rw [show ((a + n) % 4294967296 - a) % 4294967296 = n by omega]
theorem less_moved (a b n : Int) : lessSG ((a + n) % 4294967296) ((b + n) % 4294967296) = lessSG a b := by
  unfold lessSG
  rw [show ((b + n) % 4294967296 - (a + n) % 4294967296) % 4294967296 = (b - a) % 4294967296 by omega]
end Go.Proofs.Ytiaejlbkdgcfiaa
