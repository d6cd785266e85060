/-
  Package dhcp: a message's head, and Put, of all messages.
-/
import Derived.Test.YtnmffkmpkgmkpaaDhD
import Derived.Test.YtnmffkmpkgmkpaaRowSet
import Derived.Test.YtnmffkmpkgmkpaaCat
import Derived.Test.YtnmffkmpkgmkpaaDhW
set_option maxRecDepth 4000
set_option linter.unusedVariables false
set_option linter.unusedSimpArgs false
namespace Go.Proofs.Ytnmffkmpkgmkpaa
open Go.RowKit

theorem lay_mid (P B C ys : List Int) (h : B.length = ys.length) {off : Nat} (ho : off = P.length) : lay (P ++ (B ++ C)) off ys = P ++ (ys ++ C) := by
  subst ho
  unfold lay
  rw [List.take_left' rfl, ← h, ← List.append_assoc P B C, List.drop_left' (by simp)]
/-- The head as it grows, place by place. -/
def h0D (f : DHR) : List Int := [f.op, 1, 6, 0] ++ (List.replicate 4 0 ++ List.replicate 232 0)
def h1D (f : DHR) : List Int := ([f.op, 1, 6, 0] ++ putL f.xid 4 true ++ [0, 0, 0, 0]) ++ (List.replicate 4 0 ++ List.replicate 224 0)
def h2D (f : DHR) : List Int := ([f.op, 1, 6, 0] ++ putL f.xid 4 true ++ [0, 0, 0, 0] ++ putL f.ci 4 true) ++ (List.replicate 4 0 ++ List.replicate 220 0)
def h3D (f : DHR) : List Int := ([f.op, 1, 6, 0] ++ putL f.xid 4 true ++ [0, 0, 0, 0] ++ putL f.ci 4 true ++ putL f.yi 4 true ++ List.replicate 8 0) ++ (List.replicate 6 0 ++ List.replicate 206 0)
def h4D (f : DHR) : List Int := ([f.op, 1, 6, 0] ++ putL f.xid 4 true ++ [0, 0, 0, 0] ++ putL f.ci 4 true ++ putL f.yi 4 true ++ List.replicate 8 0 ++ f.x ++ List.replicate 202 0) ++ (List.replicate 4 0 ++ [])
theorem h0D_eq (f : DHR) : (((List.replicate 240 0).set 0 f.op).set 1 1).set 2 6 = h0D f := by
  rw [show (240 : Nat) = 4 + 236 from rfl, ← List.replicate_append_replicate]
  unfold h0D
  rw [List.replicate_append_replicate]
  rfl
theorem h1D_eq (f : DHR) : lay (h0D f) 4 (putL f.xid 4 true) = h1D f := by
  unfold h0D h1D
  rw [lay_mid _ _ _ _ (by simp [putB_len]) (by simp)]
  rw [show (232 : Nat) = 4 + (4 + 224) from rfl, ← List.replicate_append_replicate, ← List.replicate_append_replicate]
  simp [List.append_assoc, List.replicate]
theorem h2D_eq (f : DHR) : lay (h1D f) 12 (putL f.ci 4 true) = h2D f := by
  unfold h1D h2D
  rw [lay_mid _ _ _ _ (by simp [putB_len]) (by simp [putB_len])]
  rw [show (224 : Nat) = 4 + 220 from rfl, ← List.replicate_append_replicate]
  simp only [List.append_assoc]
theorem h3D_eq (f : DHR) : lay (h2D f) 16 (putL f.yi 4 true) = h3D f := by
  unfold h2D h3D
  rw [lay_mid _ _ _ _ (by simp [putB_len]) (by simp [putB_len])]
  rw [show (220 : Nat) = 8 + (6 + 206) from rfl, ← List.replicate_append_replicate, ← List.replicate_append_replicate]
  simp only [List.append_assoc]
theorem h4D_eq (f : DHR) (h : f.x.length = 6) : lay (h3D f) 28 f.x = h4D f := by
  unfold h3D h4D
  rw [lay_mid _ _ _ _ (by simp [h]) (by simp [putB_len])]
  rw [show (206 : Nat) = 202 + 4 from rfl, ← List.replicate_append_replicate]
  simp only [List.append_assoc, List.append_nil]
theorem h5D_eq (f : DHR) (h : f.x.length = 6) : lay (h4D f) 236 (putL 1669485411 4 true) = hdDH f := by
  unfold h4D hdDH
  rw [lay_mid _ _ _ _ (by simp [putB_len]) (by simp [putB_len, h])]
  rw [show putL 1669485411 4 true = [99, 130, 83, 99] by decide]
  simp only [List.append_assoc, List.append_nil]
theorem hD_ok (f : DHR) (ho : 0 ≤ f.op ∧ f.op < 256) (h : AreBytes f.x) : AreBytes (h0D f) ∧ AreBytes (h1D f) ∧ AreBytes (h2D f) ∧ AreBytes (h3D f) ∧ AreBytes (h4D f) := by
  have e0 : AreBytes [f.op, 1, 6, 0] := fun z hz => by simp only [List.mem_cons, List.not_mem_nil, or_false] at hz; omega
  have e1 : AreBytes [0, 0, 0, 0] := fun z hz => by simp only [List.mem_cons, List.not_mem_nil, or_false] at hz; omega
  have en : AreBytes [] := fun z hz => by simp at hz
  have p := fun x => putB_ok x 4 true
  have z := zeros_ok
  exact ⟨e0.app ((z _).app (z _)), ((e0.app (p _)).app e1).app ((z _).app (z _)), (((e0.app (p _)).app e1).app (p _)).app ((z _).app (z _)), (((((e0.app (p _)).app e1).app (p _)).app (p _)).app (z _)).app ((z _).app (z _)), (((((((e0.app (p _)).app e1).app (p _)).app (p _)).app (z _)).app h).app (z _)).app ((z _).app en)⟩
theorem hD_len (f : DHR) (h : f.x.length = 6) : (h0D f).length = 240 ∧ (h1D f).length = 240 ∧ (h2D f).length = 240 ∧ (h3D f).length = 240 ∧ (h4D f).length = 240 := by
  refine ⟨?_, ?_, ?_, ?_, ?_⟩ <;> simp [h0D, h1D, h2D, h3D, h4D, putB_len, h]
/-- What the operations of a region give. -/
def rgHo3 (W : World) (B g c : Nat) (f : DHR) (p1 : Option Addr) (k1 : Nat) : (Nat → Value) → Nat → Value → World → Prop
  | _, 0, v, _ => v = .slice (some ⟨g, 0, none⟩) 240 240
  | _, 1, v, _ => v = .slice (some ⟨g, 4, none⟩) 236 c
  | _, 2, v, _ => v = .pointer (some ⟨B, 1, none⟩)
  | _, 3, v, _ => v = .int .u32 f.xid
  | _, 4, v, w => ∃ a c, v = .slice a 4 c ∧ Buf w (.slice a 4 c) (putL f.xid 4 true)
  | _, _, _, _ => True
theorem rgHo3_grew {W : World} {B g c : Nat} {f : DHR} {p1 : Option Addr} {k1 : Nat} : ∀ vs j v w w', Grew w w' → rgHo3 W B g c f p1 k1 vs j v w → rgHo3 W B g c f p1 k1 vs j v w'
  | _, 0, _, _, _, _, h => h
  | _, 1, _, _, _, _, h => h
  | _, 2, _, _, _, _, h => h
  | _, 3, _, _, _, _, h => h
  | _, 4, _, _, _, g, ⟨b0, b1, e, h0⟩ => ⟨b0, b1, e, h0.grew g⟩
  | _, _ + 5, _, _, _, _, _ => True.intro
theorem rgHo3_lt {W : World} {B g c : Nat} {f : DHR} {p1 : Option Addr} {k1 : Nat} : ∀ vs j v w, ([] : List Nat).contains j = true → rgHo3 W B g c f p1 k1 vs j v w → ∀ g, leadsTo v = some g → g < w.heap.size
  | _, 0, _, _, hc, _ => by simp at hc
  | _, 1, _, _, hc, _ => by simp at hc
  | _, 2, _, _, hc, _ => by simp at hc
  | _, 3, _, _, hc, _ => by simp at hc
  | _, 4, _, _, hc, _ => by simp at hc
  | _, _ + 5, _, _, hc, _ => by simp at hc
theorem rgHo3_loc {W : World} {B g c : Nat} {f : DHR} {p1 : Option Addr} {k1 : Nat} : ∀ (vs vs' : Nat → Value) j v w, (∀ k ∈ ([[], [], [], [], []] : List (List Nat)).getD j [], vs k = vs' k) → rgHo3 W B g c f p1 k1 vs j v w → rgHo3 W B g c f p1 k1 vs' j v w
  | _, _, 0, _, _, _, h => h
  | _, _, 1, _, _, _, h => h
  | _, _, 2, _, _, _, h => h
  | _, _, 3, _, _, _, h => h
  | _, _, 4, _, _, _, h => h
  | _, _, _ + 5, _, _, _, _ => True.intro
/-- What the operations of a region give. -/
def rgHo4 (W : World) (B g c : Nat) (f : DHR) (p1 : Option Addr) (k1 : Nat) : (Nat → Value) → Nat → Value → World → Prop
  | _, 0, v, _ => v = .slice (some ⟨g, 0, none⟩) 240 240
  | _, 1, v, _ => v = .slice (some ⟨g, 12, none⟩) 228 c
  | _, 2, v, _ => v = .pointer (some ⟨B, 2, none⟩)
  | _, 3, v, _ => v = .int .u32 f.ci
  | _, 4, v, w => ∃ a c, v = .slice a 4 c ∧ Buf w (.slice a 4 c) (putL f.ci 4 true)
  | _, _, _, _ => True
theorem rgHo4_grew {W : World} {B g c : Nat} {f : DHR} {p1 : Option Addr} {k1 : Nat} : ∀ vs j v w w', Grew w w' → rgHo4 W B g c f p1 k1 vs j v w → rgHo4 W B g c f p1 k1 vs j v w'
  | _, 0, _, _, _, _, h => h
  | _, 1, _, _, _, _, h => h
  | _, 2, _, _, _, _, h => h
  | _, 3, _, _, _, _, h => h
  | _, 4, _, _, _, g, ⟨b0, b1, e, h0⟩ => ⟨b0, b1, e, h0.grew g⟩
  | _, _ + 5, _, _, _, _, _ => True.intro
theorem rgHo4_lt {W : World} {B g c : Nat} {f : DHR} {p1 : Option Addr} {k1 : Nat} : ∀ vs j v w, ([] : List Nat).contains j = true → rgHo4 W B g c f p1 k1 vs j v w → ∀ g, leadsTo v = some g → g < w.heap.size
  | _, 0, _, _, hc, _ => by simp at hc
  | _, 1, _, _, hc, _ => by simp at hc
  | _, 2, _, _, hc, _ => by simp at hc
  | _, 3, _, _, hc, _ => by simp at hc
  | _, 4, _, _, hc, _ => by simp at hc
  | _, _ + 5, _, _, hc, _ => by simp at hc
theorem rgHo4_loc {W : World} {B g c : Nat} {f : DHR} {p1 : Option Addr} {k1 : Nat} : ∀ (vs vs' : Nat → Value) j v w, (∀ k ∈ ([[], [], [], [], []] : List (List Nat)).getD j [], vs k = vs' k) → rgHo4 W B g c f p1 k1 vs j v w → rgHo4 W B g c f p1 k1 vs' j v w
  | _, _, 0, _, _, _, h => h
  | _, _, 1, _, _, _, h => h
  | _, _, 2, _, _, _, h => h
  | _, _, 3, _, _, _, h => h
  | _, _, 4, _, _, _, h => h
  | _, _, _ + 5, _, _, _, _ => True.intro
/-- What the operations of a region give. -/
def rgHo5 (W : World) (B g c : Nat) (f : DHR) (p1 : Option Addr) (k1 : Nat) : (Nat → Value) → Nat → Value → World → Prop
  | _, 0, v, _ => v = .slice (some ⟨g, 0, none⟩) 240 240
  | _, 1, v, _ => v = .slice (some ⟨g, 16, none⟩) 224 c
  | _, 2, v, _ => v = .pointer (some ⟨B, 3, none⟩)
  | _, 3, v, _ => v = .int .u32 f.yi
  | _, 4, v, w => ∃ a c, v = .slice a 4 c ∧ Buf w (.slice a 4 c) (putL f.yi 4 true)
  | _, _, _, _ => True
theorem rgHo5_grew {W : World} {B g c : Nat} {f : DHR} {p1 : Option Addr} {k1 : Nat} : ∀ vs j v w w', Grew w w' → rgHo5 W B g c f p1 k1 vs j v w → rgHo5 W B g c f p1 k1 vs j v w'
  | _, 0, _, _, _, _, h => h
  | _, 1, _, _, _, _, h => h
  | _, 2, _, _, _, _, h => h
  | _, 3, _, _, _, _, h => h
  | _, 4, _, _, _, g, ⟨b0, b1, e, h0⟩ => ⟨b0, b1, e, h0.grew g⟩
  | _, _ + 5, _, _, _, _, _ => True.intro
theorem rgHo5_lt {W : World} {B g c : Nat} {f : DHR} {p1 : Option Addr} {k1 : Nat} : ∀ vs j v w, ([] : List Nat).contains j = true → rgHo5 W B g c f p1 k1 vs j v w → ∀ g, leadsTo v = some g → g < w.heap.size
  | _, 0, _, _, hc, _ => by simp at hc
  | _, 1, _, _, hc, _ => by simp at hc
  | _, 2, _, _, hc, _ => by simp at hc
  | _, 3, _, _, hc, _ => by simp at hc
  | _, 4, _, _, hc, _ => by simp at hc
  | _, _ + 5, _, _, hc, _ => by simp at hc
theorem rgHo5_loc {W : World} {B g c : Nat} {f : DHR} {p1 : Option Addr} {k1 : Nat} : ∀ (vs vs' : Nat → Value) j v w, (∀ k ∈ ([[], [], [], [], []] : List (List Nat)).getD j [], vs k = vs' k) → rgHo5 W B g c f p1 k1 vs j v w → rgHo5 W B g c f p1 k1 vs' j v w
  | _, _, 0, _, _, _, h => h
  | _, _, 1, _, _, _, h => h
  | _, _, 2, _, _, _, h => h
  | _, _, 3, _, _, _, h => h
  | _, _, 4, _, _, _, h => h
  | _, _, _ + 5, _, _, _, _ => True.intro
/-- What the operations of a region give. -/
def rgHo6 (W : World) (B g c : Nat) (f : DHR) (p1 : Option Addr) (k1 : Nat) : (Nat → Value) → Nat → Value → World → Prop
  | _, 0, v, _ => v = .slice (some ⟨g, 0, none⟩) 240 240
  | _, 1, v, _ => v = .slice (some ⟨g, 28, none⟩) 212 c
  | _, 2, v, _ => v = .pointer (some ⟨B, 4, none⟩)
  | _, 3, v, _ => v = .slice p1 f.x.length k1
  | _, _, _, _ => True
theorem rgHo6_grew {W : World} {B g c : Nat} {f : DHR} {p1 : Option Addr} {k1 : Nat} : ∀ vs j v w w', Grew w w' → rgHo6 W B g c f p1 k1 vs j v w → rgHo6 W B g c f p1 k1 vs j v w'
  | _, 0, _, _, _, _, h => h
  | _, 1, _, _, _, _, h => h
  | _, 2, _, _, _, _, h => h
  | _, 3, _, _, _, _, h => h
  | _, _ + 4, _, _, _, _, _ => True.intro
theorem rgHo6_lt {W : World} {B g c : Nat} {f : DHR} {p1 : Option Addr} {k1 : Nat} : ∀ vs j v w, ([] : List Nat).contains j = true → rgHo6 W B g c f p1 k1 vs j v w → ∀ g, leadsTo v = some g → g < w.heap.size
  | _, 0, _, _, hc, _ => by simp at hc
  | _, 1, _, _, hc, _ => by simp at hc
  | _, 2, _, _, hc, _ => by simp at hc
  | _, 3, _, _, hc, _ => by simp at hc
  | _, _ + 4, _, _, hc, _ => by simp at hc
theorem rgHo6_loc {W : World} {B g c : Nat} {f : DHR} {p1 : Option Addr} {k1 : Nat} : ∀ (vs vs' : Nat → Value) j v w, (∀ k ∈ ([[], [], [], []] : List (List Nat)).getD j [], vs k = vs' k) → rgHo6 W B g c f p1 k1 vs j v w → rgHo6 W B g c f p1 k1 vs' j v w
  | _, _, 0, _, _, _, h => h
  | _, _, 1, _, _, _, h => h
  | _, _, 2, _, _, _, h => h
  | _, _, 3, _, _, _, h => h
  | _, _, _ + 4, _, _, _, _ => True.intro
/-- What the operations of a region give. -/
def rgHo7 (W : World) (B g c : Nat) (f : DHR) (p1 : Option Addr) (k1 : Nat) : (Nat → Value) → Nat → Value → World → Prop
  | _, 0, v, _ => v = .slice (some ⟨g, 0, none⟩) 240 240
  | _, 1, v, _ => v = .slice (some ⟨g, 236, none⟩) 4 c
  | _, 2, v, w => ∃ a c, v = .slice a 4 c ∧ Buf w (.slice a 4 c) (putL (1669485411) 4 true)
  | _, _, _, _ => True
theorem rgHo7_grew {W : World} {B g c : Nat} {f : DHR} {p1 : Option Addr} {k1 : Nat} : ∀ vs j v w w', Grew w w' → rgHo7 W B g c f p1 k1 vs j v w → rgHo7 W B g c f p1 k1 vs j v w'
  | _, 0, _, _, _, _, h => h
  | _, 1, _, _, _, _, h => h
  | _, 2, _, _, _, g, ⟨b0, b1, e, h0⟩ => ⟨b0, b1, e, h0.grew g⟩
  | _, _ + 3, _, _, _, _, _ => True.intro
theorem rgHo7_lt {W : World} {B g c : Nat} {f : DHR} {p1 : Option Addr} {k1 : Nat} : ∀ vs j v w, ([] : List Nat).contains j = true → rgHo7 W B g c f p1 k1 vs j v w → ∀ g, leadsTo v = some g → g < w.heap.size
  | _, 0, _, _, hc, _ => by simp at hc
  | _, 1, _, _, hc, _ => by simp at hc
  | _, 2, _, _, hc, _ => by simp at hc
  | _, _ + 3, _, _, hc, _ => by simp at hc
theorem rgHo7_loc {W : World} {B g c : Nat} {f : DHR} {p1 : Option Addr} {k1 : Nat} : ∀ (vs vs' : Nat → Value) j v w, (∀ k ∈ ([[], [], []] : List (List Nat)).getD j [], vs k = vs' k) → rgHo7 W B g c f p1 k1 vs j v w → rgHo7 W B g c f p1 k1 vs' j v w
  | _, _, 0, _, _, _, h => h
  | _, _, 1, _, _, _, h => h
  | _, _, 2, _, _, _, h => h
  | _, _, _ + 3, _, _, _, _ => True.intro
set_option maxHeartbeats 4000000 in
theorem headOf20_c {f : DHR} {p1 : Option Addr} {k1 : Nat} (hok : okDH f = true) {w : World} (hv : Dh w (.agg #[.int .i64 f.op, .int .u32 f.xid, .int .u32 f.ci, .int .u32 f.yi, .slice p1 f.x.length k1, .int .i64 f.ty, .int .u32 f.wa, .int .u32 f.se, .int .u32 f.le, .int .u32 f.ma, .int .u32 f.ro, .int .u32 f.dn]) f) (hb1 : Buf w (.slice p1 f.x.length k1) f.x) :
    Calls Try.prog 20 #[.agg #[.int .i64 f.op, .int .u32 f.xid, .int .u32 f.ci, .int .u32 f.yi, .slice p1 f.x.length k1, .int .i64 f.ty, .int .u32 f.wa, .int .u32 f.se, .int .u32 f.le, .int .u32 f.ma, .int .u32 f.ro, .int .u32 f.dn]] w fun e w' => ∃ a c, e = .returned (.slice a 240 c) ∧ Buf w' (.slice a 240 c) (hdDH f) ∧ Grew w w' := by
  have hk := okDH_spec hok
  have h6 := hk.2.1
  have ew : IntKind.u8.wrap f.op = f.op := IntWalk.u8_in _ (by rcases hk.1 with h | h <;> omega)
  have HUxid := Lib.hid (show 0 ≤ f.xid ∧ f.xid < 4294967296 from hv.xid)
  have HUci := Lib.hid (show 0 ≤ f.ci ∧ f.ci < 4294967296 from hv.ci)
  have HUyi := Lib.hid (show 0 ≤ f.yi ∧ f.yi < 4294967296 from hv.yi)
  have HX := Lib.hid hb1
  have HH6 := Lib.hid h6
  have hopb : 0 ≤ f.op ∧ f.op < 256 := by rcases hk.1 with h | h <;> omega
  have HOK := Lib.hid (hdDH_ok hk.1 hb1.ok)
  obtain ⟨hz0, hz1, hz2, hz3, hz4⟩ := hD_ok f hopb hb1.ok
  have HZ0 := Lib.hid hz0
  have HZ1 := Lib.hid hz1
  have HZ2 := Lib.hid hz2
  have HZ3 := Lib.hid hz3
  have HZ4 := Lib.hid hz4
  clear hz0 hz1 hz2 hz3 hz4
  clear hv hb1 hok hk h6 hopb
  go_enter Try.func20, Try.ntmps20
  go_upto_region 1 with fail
  have hB0 : Blk (w.alloc (.cells #[.int .i64 f.op, .int .u32 f.xid, .int .u32 f.ci, .int .u32 f.yi, .slice p1 f.x.length k1, .int .i64 f.ty, .int .u32 f.wa, .int .u32 f.se, .int .u32 f.le, .int .u32 f.ma, .int .u32 f.ro, .int .u32 f.dn] 26)) w.heap.size #[.int .i64 f.op, .int .u32 f.xid, .int .u32 f.ci, .int .u32 f.yi, .slice p1 f.x.length k1, .int .i64 f.ty, .int .u32 f.wa, .int .u32 f.se, .int .u32 f.le, .int .u32 f.ma, .int .u32 f.ro, .int .u32 f.dn] 26 := Blk.new _ _ _ _ rfl
  have g0 : Grew w (w.alloc (.cells #[.int .i64 f.op, .int .u32 f.xid, .int .u32 f.ci, .int .u32 f.yi, .slice p1 f.x.length k1, .int .i64 f.ty, .int .u32 f.wa, .int .u32 f.se, .int .u32 f.le, .int .u32 f.ma, .int .u32 f.ro, .int .u32 f.dn] 26)) := (Grew.refl _).alloc _
  generalize (w.alloc (.cells #[.int .i64 f.op, .int .u32 f.xid, .int .u32 f.ci, .int .u32 f.yi, .slice p1 f.x.length k1, .int .i64 f.ty, .int .u32 f.wa, .int .u32 f.se, .int .u32 f.le, .int .u32 f.ma, .int .u32 f.ro, .int .u32 f.dn] 26)) = w0 at *
  generalize hlB : w.heap.size = B at *
  have HB0 := Lib.hid hB0
  have HX0 := Lib.hid (HX.out.grew g0)
  have HG0 := Lib.hid g0
  clear hB0 g0 HX
  go_upto_region 2 with (refine wpList_make_b rfl _ _ rfl (Grew.refl w0) .i64 .i64 240 240 240 rfl rfl rfl rfl (by omega) ?_; intro w1 R1 g1)
  generalize hgz : w0.heap.size = g at R1 ⊢
  have HGG := Lib.hid hgz
  clear hgz
  have HR1 := Lib.hid (show Row w1 g (.slice (some ⟨g, 0, none⟩) 240 240) (List.replicate 240 0) from R1.out)
  have HB1 := Lib.hid (HB0.out.grew g1)
  have HG1 := Lib.hid g1
  clear R1 g1
  have y0 := HB1.out.cell 0
  have x0 := HR1.out.cellAt 0 (by simp)
  have q0 := HR1.out.freeAt 0
  have x1 := HR1.out.cellAt 1 (by simp)
  have q1 := HR1.out.freeAt 1
  have x2 := HR1.out.cellAt 2 (by simp)
  have q2 := HR1.out.freeAt 2
  go_upto_region 3 with fail
  have hBg : B ≠ g := by have := HB0.out.lt; have := HGG.out; omega
  have hGle : w0.heap.size ≤ g := by have := HGG.out; omega
  have HR2 := Lib.hid (((HR1.out.setCell 0 f.op).setCell 1 1).setCell 2 6)
  rw [h0D_eq] at HR2
  have HG2 := Lib.hid (((HG1.out.setCell (b := g) (o := 0) hGle (.int .u8 f.op)).setCell (b := g) (o := 1) hGle (.int .u8 1)).setCell (b := g) (o := 2) hGle (.int .u8 6))
  clear y0 x0 q0 x1 q1 x2 q2 HR1 HG1 HB1
  generalize (((w1.setCell ⟨g, 0, none⟩ (.int .u8 f.op)).setCell ⟨g, 1, none⟩ (.int .u8 1)).setCell ⟨g, 2, none⟩ (.int .u8 6)) = w2 at *
  obtain ⟨hn0, hn1, hn2, hn3, hn4⟩ := hD_len f HH6.out
  have HN0 := Lib.hid hn0
  have HN1 := Lib.hid hn1
  have HN2 := Lib.hid hn2
  have HN3 := Lib.hid hn3
  have HN4 := Lib.hid hn4
  clear hn0 hn1 hn2 hn3 hn4
  have HB := Lib.hid (HB0.out.grew HG2.out)
  obtain ⟨a', c, hcut, s1, s2, s3, hrun⟩ := (HR2.out.buf (HZ0.out)).run_cut (lo := 4) (hi := (h0D f).length) (by rw [HN0.out]; omega) (Nat.le_refl _)
  rw [HN0.out] at s1 hrun
  obtain rfl := s1 (by omega)
  have HCUT := Lib.hid (show ∀ w', (Instr.sliceAt 22 (.slice (some ⟨g, 0, none⟩) 240 240) (some (.int .i64 4)) none none).run Try.prog w' = .ok (.slice (some ⟨g, 4, none⟩) 236 c) w' from fun w' => by have := hrun rfl .i64 w'; simpa [Addr.add] using this)
  clear s1 s2 s3 hrun hcut
  refine region_deps 5 [some 14, some 15, some 16, some 17, some 18] [[], [], [], [], []] [] (rgHo3 w2 B g c f p1 k1) rgHo3_grew rgHo3_lt rgHo3_loc (Grew.refl w2) (by kernel_rfl) (by kernel_rfl) ?_ ?_
  · simp only [List.take_succ_cons, List.take_zero]
    refine GivesAll.cons (fun vs w1 g1 hd K hK => ?_) ?_
    · simp only [putsT, Nat.zero_add, Nat.reduceAdd, List.getD_cons_zero, List.getD_cons_succ, Act.put, List.setIfInBounds_toArray, List.set_cons_zero, List.set_cons_succ] at hK ⊢
      go_simp
      exact hK _ _ (Grew.refl _) rfl (fun h => by simp at h)
    refine GivesAll.cons (fun vs w1 g1 hd K hK => ?_) ?_
    · have e0 : vs 0 = .slice (some ⟨g, 0, none⟩) 240 240 := hd 0 (by kernel_rfl)
      simp only [putsT, Nat.zero_add, Nat.reduceAdd, List.getD_cons_zero, List.getD_cons_succ, Act.put, List.setIfInBounds_toArray, List.set_cons_zero, List.set_cons_succ, e0] at hK ⊢
      have hr := HCUT.out
      go_simp
      exact hK _ _ (Grew.refl _) rfl (fun h => by simp at h)
    refine GivesAll.cons (fun vs w1 g1 hd K hK => ?_) ?_
    · simp only [putsT, Nat.zero_add, Nat.reduceAdd, List.getD_cons_zero, List.getD_cons_succ, Act.put, List.setIfInBounds_toArray, List.set_cons_zero, List.set_cons_succ] at hK ⊢
      go_simp
      exact hK _ _ (Grew.refl _) rfl (fun h => by simp at h)
    refine GivesAll.cons (fun vs w1 g1 hd K hK => ?_) ?_
    · have e2 : vs 2 = .pointer (some ⟨B, 1, none⟩) := hd 2 (by kernel_rfl)
      simp only [putsT, Nat.zero_add, Nat.reduceAdd, List.getD_cons_zero, List.getD_cons_succ, Act.put, List.setIfInBounds_toArray, List.set_cons_zero, List.set_cons_succ, e2] at hK ⊢
      have y := (HB.out.grew g1).cell 1
      go_simp
      exact hK _ _ (Grew.refl _) rfl (fun h => by simp at h)
    refine GivesAll.cons (fun vs w1 g1 hd K hK => ?_) ?_
    · have e3 : vs 3 = .int .u32 f.xid := hd 3 (by kernel_rfl)
      simp only [putsT, Nat.zero_add, Nat.reduceAdd, List.getD_cons_zero, List.getD_cons_succ, Act.put, List.setIfInBounds_toArray, List.set_cons_zero, List.set_cons_succ, e3] at hK ⊢
      go_simp
      refine Calls.mono (dhLong_c _ HUxid.out w1) ?_
      rintro e w5 ⟨a, c, rfl, hb, g5⟩
      exact hK _ _ g5 ⟨_, _, rfl, hb⟩ (fun h => by simp at h)
    exact GivesAll.nil
  intro vs wz gz hv hap
  have e0 : vs 0 = .slice (some ⟨g, 0, none⟩) 240 240 := hv 0 (by decide)
  have e1 : vs 1 = .slice (some ⟨g, 4, none⟩) 236 c := hv 1 (by decide)
  have e2 : vs 2 = .pointer (some ⟨B, 1, none⟩) := hv 2 (by decide)
  have e3 : vs 3 = .int .u32 f.xid := hv 3 (by decide)
  obtain ⟨a_4, c_4, e4, r4_0⟩ := hv 4 (by decide)
  clear hv hap
  simp only [putsT, Nat.zero_add, Nat.reduceAdd, List.getD_cons_zero, List.getD_cons_succ, Act.put, List.setIfInBounds_toArray, List.set_cons_zero, List.set_cons_succ, List.drop_succ_cons, List.drop_zero, e0, e1, e2, e3, e4]
  clear e0 e1 e2 e3 e4
  go_upto_region 4 with (refine wpList_copy_b (W := w0) rfl (.tmp 15) (.tmp 18) rfl (HG2.out.trans gz) (show Row wz w0.heap.size (.slice (some ⟨g, 0, none⟩) 240 240) (h0D f) from (by rw [HGG.out]; exact HR2.out.grew gz)) rfl r4_0 (by rfl) 4 (some ⟨g, 4, none⟩) 236 c (by rfl) (fun _ => rfl) (by rw [HN0.out]; omega) ?_; intro w13 R9 g9 o9; generalize goInt ((((putL f.xid 4 true).take 236).length : Nat) : Int) = gi3)
  have HR3 : Hid (Row w13 g (.slice (some ⟨g, 0, none⟩) 240 240) (h1D f)) := Lib.hid (by
    have h9 := R9.out
    rw [HGG.out, List.take_of_length_le (by simp [putB_len, HH6.out]), h1D_eq f] at h9
    exact h9)
  have HG3 := Lib.hid g9
  clear R9 g9 o9 HR2 HG2 HB HCUT gz r4_0
  have HB := Lib.hid (HB0.out.grew HG3.out)
  obtain ⟨a', c, hcut, s1, s2, s3, hrun⟩ := (HR3.out.buf (HZ1.out)).run_cut (lo := 12) (hi := (h1D f).length) (by rw [HN1.out]; omega) (Nat.le_refl _)
  rw [HN1.out] at s1 hrun
  obtain rfl := s1 (by omega)
  have HCUT := Lib.hid (show ∀ w', (Instr.sliceAt 22 (.slice (some ⟨g, 0, none⟩) 240 240) (some (.int .i64 12)) none none).run Try.prog w' = .ok (.slice (some ⟨g, 12, none⟩) 228 c) w' from fun w' => by have := hrun rfl .i64 w'; simpa [Addr.add] using this)
  clear s1 s2 s3 hrun hcut
  refine region_deps 5 [some 20, some 21, some 22, some 23, some 24] [[], [], [], [], []] [] (rgHo4 w13 B g c f p1 k1) rgHo4_grew rgHo4_lt rgHo4_loc (Grew.refl w13) (by kernel_rfl) (by kernel_rfl) ?_ ?_
  · simp only [List.take_succ_cons, List.take_zero]
    refine GivesAll.cons (fun vs w1 g1 hd K hK => ?_) ?_
    · simp only [putsT, Nat.zero_add, Nat.reduceAdd, List.getD_cons_zero, List.getD_cons_succ, Act.put, List.setIfInBounds_toArray, List.set_cons_zero, List.set_cons_succ] at hK ⊢
      go_simp
      exact hK _ _ (Grew.refl _) rfl (fun h => by simp at h)
    refine GivesAll.cons (fun vs w1 g1 hd K hK => ?_) ?_
    · have e0 : vs 0 = .slice (some ⟨g, 0, none⟩) 240 240 := hd 0 (by kernel_rfl)
      simp only [putsT, Nat.zero_add, Nat.reduceAdd, List.getD_cons_zero, List.getD_cons_succ, Act.put, List.setIfInBounds_toArray, List.set_cons_zero, List.set_cons_succ, e0] at hK ⊢
      have hr := HCUT.out
      go_simp
      exact hK _ _ (Grew.refl _) rfl (fun h => by simp at h)
    refine GivesAll.cons (fun vs w1 g1 hd K hK => ?_) ?_
    · simp only [putsT, Nat.zero_add, Nat.reduceAdd, List.getD_cons_zero, List.getD_cons_succ, Act.put, List.setIfInBounds_toArray, List.set_cons_zero, List.set_cons_succ] at hK ⊢
      go_simp
      exact hK _ _ (Grew.refl _) rfl (fun h => by simp at h)
    refine GivesAll.cons (fun vs w1 g1 hd K hK => ?_) ?_
    · have e2 : vs 2 = .pointer (some ⟨B, 2, none⟩) := hd 2 (by kernel_rfl)
      simp only [putsT, Nat.zero_add, Nat.reduceAdd, List.getD_cons_zero, List.getD_cons_succ, Act.put, List.setIfInBounds_toArray, List.set_cons_zero, List.set_cons_succ, e2] at hK ⊢
      have y := (HB.out.grew g1).cell 2
      go_simp
      exact hK _ _ (Grew.refl _) rfl (fun h => by simp at h)
    refine GivesAll.cons (fun vs w1 g1 hd K hK => ?_) ?_
    · have e3 : vs 3 = .int .u32 f.ci := hd 3 (by kernel_rfl)
      simp only [putsT, Nat.zero_add, Nat.reduceAdd, List.getD_cons_zero, List.getD_cons_succ, Act.put, List.setIfInBounds_toArray, List.set_cons_zero, List.set_cons_succ, e3] at hK ⊢
      go_simp
      refine Calls.mono (dhLong_c _ HUci.out w1) ?_
      rintro e w5 ⟨a, c, rfl, hb, g5⟩
      exact hK _ _ g5 ⟨_, _, rfl, hb⟩ (fun h => by simp at h)
    exact GivesAll.nil
  intro vs wz gz hv hap
  have e0 : vs 0 = .slice (some ⟨g, 0, none⟩) 240 240 := hv 0 (by decide)
  have e1 : vs 1 = .slice (some ⟨g, 12, none⟩) 228 c := hv 1 (by decide)
  have e2 : vs 2 = .pointer (some ⟨B, 2, none⟩) := hv 2 (by decide)
  have e3 : vs 3 = .int .u32 f.ci := hv 3 (by decide)
  obtain ⟨a_4, c_4, e4, r4_0⟩ := hv 4 (by decide)
  clear hv hap
  simp only [putsT, Nat.zero_add, Nat.reduceAdd, List.getD_cons_zero, List.getD_cons_succ, Act.put, List.setIfInBounds_toArray, List.set_cons_zero, List.set_cons_succ, List.drop_succ_cons, List.drop_zero, e0, e1, e2, e3, e4]
  clear e0 e1 e2 e3 e4
  go_upto_region 5 with (refine wpList_copy_b (W := w0) rfl (.tmp 21) (.tmp 24) rfl (HG3.out.trans gz) (show Row wz w0.heap.size (.slice (some ⟨g, 0, none⟩) 240 240) (h1D f) from (by rw [HGG.out]; exact HR3.out.grew gz)) rfl r4_0 (by rfl) 12 (some ⟨g, 12, none⟩) 228 c (by rfl) (fun _ => rfl) (by rw [HN1.out]; omega) ?_; intro w14 R9 g9 o9; generalize goInt ((((putL f.ci 4 true).take 228).length : Nat) : Int) = gi4)
  have HR4 : Hid (Row w14 g (.slice (some ⟨g, 0, none⟩) 240 240) (h2D f)) := Lib.hid (by
    have h9 := R9.out
    rw [HGG.out, List.take_of_length_le (by simp [putB_len, HH6.out]), h2D_eq f] at h9
    exact h9)
  have HG4 := Lib.hid g9
  clear R9 g9 o9 HR3 HG3 HB HCUT gz r4_0
  have HB := Lib.hid (HB0.out.grew HG4.out)
  obtain ⟨a', c, hcut, s1, s2, s3, hrun⟩ := (HR4.out.buf (HZ2.out)).run_cut (lo := 16) (hi := (h2D f).length) (by rw [HN2.out]; omega) (Nat.le_refl _)
  rw [HN2.out] at s1 hrun
  obtain rfl := s1 (by omega)
  have HCUT := Lib.hid (show ∀ w', (Instr.sliceAt 22 (.slice (some ⟨g, 0, none⟩) 240 240) (some (.int .i64 16)) none none).run Try.prog w' = .ok (.slice (some ⟨g, 16, none⟩) 224 c) w' from fun w' => by have := hrun rfl .i64 w'; simpa [Addr.add] using this)
  clear s1 s2 s3 hrun hcut
  refine region_deps 5 [some 26, some 27, some 28, some 29, some 30] [[], [], [], [], []] [] (rgHo5 w14 B g c f p1 k1) rgHo5_grew rgHo5_lt rgHo5_loc (Grew.refl w14) (by kernel_rfl) (by kernel_rfl) ?_ ?_
  · simp only [List.take_succ_cons, List.take_zero]
    refine GivesAll.cons (fun vs w1 g1 hd K hK => ?_) ?_
    · simp only [putsT, Nat.zero_add, Nat.reduceAdd, List.getD_cons_zero, List.getD_cons_succ, Act.put, List.setIfInBounds_toArray, List.set_cons_zero, List.set_cons_succ] at hK ⊢
      go_simp
      exact hK _ _ (Grew.refl _) rfl (fun h => by simp at h)
    refine GivesAll.cons (fun vs w1 g1 hd K hK => ?_) ?_
    · have e0 : vs 0 = .slice (some ⟨g, 0, none⟩) 240 240 := hd 0 (by kernel_rfl)
      simp only [putsT, Nat.zero_add, Nat.reduceAdd, List.getD_cons_zero, List.getD_cons_succ, Act.put, List.setIfInBounds_toArray, List.set_cons_zero, List.set_cons_succ, e0] at hK ⊢
      have hr := HCUT.out
      go_simp
      exact hK _ _ (Grew.refl _) rfl (fun h => by simp at h)
    refine GivesAll.cons (fun vs w1 g1 hd K hK => ?_) ?_
    · simp only [putsT, Nat.zero_add, Nat.reduceAdd, List.getD_cons_zero, List.getD_cons_succ, Act.put, List.setIfInBounds_toArray, List.set_cons_zero, List.set_cons_succ] at hK ⊢
      go_simp
      exact hK _ _ (Grew.refl _) rfl (fun h => by simp at h)
    refine GivesAll.cons (fun vs w1 g1 hd K hK => ?_) ?_
    · have e2 : vs 2 = .pointer (some ⟨B, 3, none⟩) := hd 2 (by kernel_rfl)
      simp only [putsT, Nat.zero_add, Nat.reduceAdd, List.getD_cons_zero, List.getD_cons_succ, Act.put, List.setIfInBounds_toArray, List.set_cons_zero, List.set_cons_succ, e2] at hK ⊢
      have y := (HB.out.grew g1).cell 3
      go_simp
      exact hK _ _ (Grew.refl _) rfl (fun h => by simp at h)
    refine GivesAll.cons (fun vs w1 g1 hd K hK => ?_) ?_
    · have e3 : vs 3 = .int .u32 f.yi := hd 3 (by kernel_rfl)
      simp only [putsT, Nat.zero_add, Nat.reduceAdd, List.getD_cons_zero, List.getD_cons_succ, Act.put, List.setIfInBounds_toArray, List.set_cons_zero, List.set_cons_succ, e3] at hK ⊢
      go_simp
      refine Calls.mono (dhLong_c _ HUyi.out w1) ?_
      rintro e w5 ⟨a, c, rfl, hb, g5⟩
      exact hK _ _ g5 ⟨_, _, rfl, hb⟩ (fun h => by simp at h)
    exact GivesAll.nil
  intro vs wz gz hv hap
  have e0 : vs 0 = .slice (some ⟨g, 0, none⟩) 240 240 := hv 0 (by decide)
  have e1 : vs 1 = .slice (some ⟨g, 16, none⟩) 224 c := hv 1 (by decide)
  have e2 : vs 2 = .pointer (some ⟨B, 3, none⟩) := hv 2 (by decide)
  have e3 : vs 3 = .int .u32 f.yi := hv 3 (by decide)
  obtain ⟨a_4, c_4, e4, r4_0⟩ := hv 4 (by decide)
  clear hv hap
  simp only [putsT, Nat.zero_add, Nat.reduceAdd, List.getD_cons_zero, List.getD_cons_succ, Act.put, List.setIfInBounds_toArray, List.set_cons_zero, List.set_cons_succ, List.drop_succ_cons, List.drop_zero, e0, e1, e2, e3, e4]
  clear e0 e1 e2 e3 e4
  go_upto_region 6 with (refine wpList_copy_b (W := w0) rfl (.tmp 27) (.tmp 30) rfl (HG4.out.trans gz) (show Row wz w0.heap.size (.slice (some ⟨g, 0, none⟩) 240 240) (h2D f) from (by rw [HGG.out]; exact HR4.out.grew gz)) rfl r4_0 (by rfl) 16 (some ⟨g, 16, none⟩) 224 c (by rfl) (fun _ => rfl) (by rw [HN2.out]; omega) ?_; intro w15 R9 g9 o9; generalize goInt ((((putL f.yi 4 true).take 224).length : Nat) : Int) = gi5)
  have HR5 : Hid (Row w15 g (.slice (some ⟨g, 0, none⟩) 240 240) (h3D f)) := Lib.hid (by
    have h9 := R9.out
    rw [HGG.out, List.take_of_length_le (by simp [putB_len, HH6.out]), h3D_eq f] at h9
    exact h9)
  have HG5 := Lib.hid g9
  clear R9 g9 o9 HR4 HG4 HB HCUT gz r4_0
  have HB := Lib.hid (HB0.out.grew HG5.out)
  obtain ⟨a', c, hcut, s1, s2, s3, hrun⟩ := (HR5.out.buf (HZ3.out)).run_cut (lo := 28) (hi := (h3D f).length) (by rw [HN3.out]; omega) (Nat.le_refl _)
  rw [HN3.out] at s1 hrun
  obtain rfl := s1 (by omega)
  have HCUT := Lib.hid (show ∀ w', (Instr.sliceAt 22 (.slice (some ⟨g, 0, none⟩) 240 240) (some (.int .i64 28)) none none).run Try.prog w' = .ok (.slice (some ⟨g, 28, none⟩) 212 c) w' from fun w' => by have := hrun rfl .i64 w'; simpa [Addr.add] using this)
  clear s1 s2 s3 hrun hcut
  refine region_deps 4 [some 32, some 33, some 34, some 35] [[], [], [], []] [] (rgHo6 w15 B g c f p1 k1) rgHo6_grew rgHo6_lt rgHo6_loc (Grew.refl w15) (by kernel_rfl) (by kernel_rfl) ?_ ?_
  · simp only [List.take_succ_cons, List.take_zero]
    refine GivesAll.cons (fun vs w1 g1 hd K hK => ?_) ?_
    · simp only [putsT, Nat.zero_add, Nat.reduceAdd, List.getD_cons_zero, List.getD_cons_succ, Act.put, List.setIfInBounds_toArray, List.set_cons_zero, List.set_cons_succ] at hK ⊢
      go_simp
      exact hK _ _ (Grew.refl _) rfl (fun h => by simp at h)
    refine GivesAll.cons (fun vs w1 g1 hd K hK => ?_) ?_
    · have e0 : vs 0 = .slice (some ⟨g, 0, none⟩) 240 240 := hd 0 (by kernel_rfl)
      simp only [putsT, Nat.zero_add, Nat.reduceAdd, List.getD_cons_zero, List.getD_cons_succ, Act.put, List.setIfInBounds_toArray, List.set_cons_zero, List.set_cons_succ, e0] at hK ⊢
      have hr := HCUT.out
      go_simp
      exact hK _ _ (Grew.refl _) rfl (fun h => by simp at h)
    refine GivesAll.cons (fun vs w1 g1 hd K hK => ?_) ?_
    · simp only [putsT, Nat.zero_add, Nat.reduceAdd, List.getD_cons_zero, List.getD_cons_succ, Act.put, List.setIfInBounds_toArray, List.set_cons_zero, List.set_cons_succ] at hK ⊢
      go_simp
      exact hK _ _ (Grew.refl _) rfl (fun h => by simp at h)
    refine GivesAll.cons (fun vs w1 g1 hd K hK => ?_) ?_
    · have e2 : vs 2 = .pointer (some ⟨B, 4, none⟩) := hd 2 (by kernel_rfl)
      simp only [putsT, Nat.zero_add, Nat.reduceAdd, List.getD_cons_zero, List.getD_cons_succ, Act.put, List.setIfInBounds_toArray, List.set_cons_zero, List.set_cons_succ, e2] at hK ⊢
      have y := (HB.out.grew g1).cell 4
      go_simp
      exact hK _ _ (Grew.refl _) rfl (fun h => by simp at h)
    exact GivesAll.nil
  intro vs wz gz hv hap
  have e0 : vs 0 = .slice (some ⟨g, 0, none⟩) 240 240 := hv 0 (by decide)
  have e1 : vs 1 = .slice (some ⟨g, 28, none⟩) 212 c := hv 1 (by decide)
  have e2 : vs 2 = .pointer (some ⟨B, 4, none⟩) := hv 2 (by decide)
  have e3 : vs 3 = .slice p1 f.x.length k1 := hv 3 (by decide)
  clear hv hap
  simp only [putsT, Nat.zero_add, Nat.reduceAdd, List.getD_cons_zero, List.getD_cons_succ, Act.put, List.setIfInBounds_toArray, List.set_cons_zero, List.set_cons_succ, List.drop_succ_cons, List.drop_zero, e0, e1, e2, e3]
  clear e0 e1 e2 e3
  go_upto_region 7 with (refine wpList_copy_b (W := w0) rfl (.tmp 33) (.tmp 35) rfl (HG5.out.trans gz) (show Row wz w0.heap.size (.slice (some ⟨g, 0, none⟩) 240 240) (h3D f) from (by rw [HGG.out]; exact HR5.out.grew gz)) rfl (HX0.out.grew (HG5.out.trans gz)) (by rfl) 28 (some ⟨g, 28, none⟩) 212 c (by rfl) (fun _ => rfl) (by rw [HN3.out]; omega) ?_; intro w16 R9 g9 o9; generalize goInt ((((f.x).take 212).length : Nat) : Int) = gi6)
  have HR6 : Hid (Row w16 g (.slice (some ⟨g, 0, none⟩) 240 240) (h4D f)) := Lib.hid (by
    have h9 := R9.out
    rw [HGG.out, List.take_of_length_le (by simp [putB_len, HH6.out]), h4D_eq f HH6.out] at h9
    exact h9)
  have HG6 := Lib.hid g9
  clear R9 g9 o9 HR5 HG5 HB HCUT gz
  have HB := Lib.hid (HB0.out.grew HG6.out)
  obtain ⟨a', c, hcut, s1, s2, s3, hrun⟩ := (HR6.out.buf (HZ4.out)).run_cut (lo := 236) (hi := (h4D f).length) (by rw [HN4.out]; omega) (Nat.le_refl _)
  rw [HN4.out] at s1 hrun
  obtain rfl := s1 (by omega)
  have HCUT := Lib.hid (show ∀ w', (Instr.sliceAt 22 (.slice (some ⟨g, 0, none⟩) 240 240) (some (.int .i64 236)) none none).run Try.prog w' = .ok (.slice (some ⟨g, 236, none⟩) 4 c) w' from fun w' => by have := hrun rfl .i64 w'; simpa [Addr.add] using this)
  clear s1 s2 s3 hrun hcut
  refine region_deps 3 [some 37, some 38, some 39] [[], [], []] [] (rgHo7 w16 B g c f p1 k1) rgHo7_grew rgHo7_lt rgHo7_loc (Grew.refl w16) (by kernel_rfl) (by kernel_rfl) ?_ ?_
  · simp only [List.take_succ_cons, List.take_zero]
    refine GivesAll.cons (fun vs w1 g1 hd K hK => ?_) ?_
    · simp only [putsT, Nat.zero_add, Nat.reduceAdd, List.getD_cons_zero, List.getD_cons_succ, Act.put, List.setIfInBounds_toArray, List.set_cons_zero, List.set_cons_succ] at hK ⊢
      go_simp
      exact hK _ _ (Grew.refl _) rfl (fun h => by simp at h)
    refine GivesAll.cons (fun vs w1 g1 hd K hK => ?_) ?_
    · have e0 : vs 0 = .slice (some ⟨g, 0, none⟩) 240 240 := hd 0 (by kernel_rfl)
      simp only [putsT, Nat.zero_add, Nat.reduceAdd, List.getD_cons_zero, List.getD_cons_succ, Act.put, List.setIfInBounds_toArray, List.set_cons_zero, List.set_cons_succ, e0] at hK ⊢
      have hr := HCUT.out
      go_simp
      exact hK _ _ (Grew.refl _) rfl (fun h => by simp at h)
    refine GivesAll.cons (fun vs w1 g1 hd K hK => ?_) ?_
    · simp only [putsT, Nat.zero_add, Nat.reduceAdd, List.getD_cons_zero, List.getD_cons_succ, Act.put, List.setIfInBounds_toArray, List.set_cons_zero, List.set_cons_succ] at hK ⊢
      go_simp
      refine Calls.mono (dhLong_c _ (by omega) w1) ?_
      rintro e w5 ⟨a, c, rfl, hb, g5⟩
      exact hK _ _ g5 ⟨_, _, rfl, hb⟩ (fun h => by simp at h)
    exact GivesAll.nil
  intro vs wz gz hv hap
  have e0 : vs 0 = .slice (some ⟨g, 0, none⟩) 240 240 := hv 0 (by decide)
  have e1 : vs 1 = .slice (some ⟨g, 236, none⟩) 4 c := hv 1 (by decide)
  obtain ⟨a_2, c_2, e2, r2_0⟩ := hv 2 (by decide)
  clear hv hap
  simp only [putsT, Nat.zero_add, Nat.reduceAdd, List.getD_cons_zero, List.getD_cons_succ, Act.put, List.setIfInBounds_toArray, List.set_cons_zero, List.set_cons_succ, List.drop_succ_cons, List.drop_zero, e0, e1, e2]
  clear e0 e1 e2
  go_upto_region 8 with (refine wpList_copy_b (W := w0) rfl (.tmp 38) (.tmp 39) rfl (HG6.out.trans gz) (show Row wz w0.heap.size (.slice (some ⟨g, 0, none⟩) 240 240) (h4D f) from (by rw [HGG.out]; exact HR6.out.grew gz)) rfl r2_0 (by rfl) 236 (some ⟨g, 236, none⟩) 4 c (by rfl) (fun _ => rfl) (by rw [HN4.out]; omega) ?_; intro w17 R9 g9 o9; generalize goInt ((((putL 1669485411 4 true).take 4).length : Nat) : Int) = gi7)
  have HR7 : Hid (Row w17 g (.slice (some ⟨g, 0, none⟩) 240 240) (hdDH f)) := Lib.hid (by
    have h9 := R9.out
    rw [HGG.out, List.take_of_length_le (by simp [putB_len, HH6.out]), h5D_eq f HH6.out] at h9
    exact h9)
  have HG7 := Lib.hid g9
  clear R9 g9 o9 HR6 HG6 HB HCUT gz r2_0
  go_wp2_with fail
  go_ret
  exact ⟨_, _, rfl, HR7.out.buf HOK.out, HG0.out.trans HG7.out⟩
end Go.Proofs.Ytnmffkmpkgmkpaa
