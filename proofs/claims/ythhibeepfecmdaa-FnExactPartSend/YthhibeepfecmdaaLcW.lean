/- spec.l10Copy. -/
import Derived.Test.YthhibeepfecmdaaAfOp
import Derived.Test.YthhibeepfecmdaaAfInt
import Derived.Test.YthhibeepfecmdaaStPart
import Derived.Test.YthhibeepfecmdaaOrdV
import Derived.Test.YthhibeepfecmdaaBlkOf
namespace Go.Proofs.Ythhibeepfecmdaa
open Go.ChangeShapes Go.WideShapes Go.ChangeAt Go.RowKit
set_option linter.unusedVariables false

def lcD (L : Nat → Bool) (V : Nat → Value) (W : World) : Prop := (L 4 = true → blkOf (V 4) < W.heap.size) ∧ (L 7 = true → blkOf (V 7) < W.heap.size) ∧ (L 12 = true → blkOf (V 12) < W.heap.size) ∧ (L 15 = true → blkOf (V 15) < W.heap.size) ∧ (L 4 = true → L 12 = true → blkOf (V 4) ≠ blkOf (V 12)) ∧ (L 4 = true → L 15 = true → blkOf (V 4) ≠ blkOf (V 15)) ∧ (L 7 = true → L 12 = true → blkOf (V 7) ≠ blkOf (V 12)) ∧ (L 7 = true → L 15 = true → blkOf (V 7) ≠ blkOf (V 15))
theorem lcD_start (V : Nat → Value) (W : World) : lcD (fun _ => false) V W := by
  refine ⟨?_, ?_, ?_, ?_, ?_, ?_, ?_, ?_⟩ <;> (intro h; cases h)
theorem lcD_same {W W' : World} {L : Nat → Bool} {V : Nat → Value} {v : Value} (i : Nat) (hi : i ≠ 4 ∧ i ≠ 7 ∧ i ≠ 12 ∧ i ≠ 15) (h : lcD L V W) (hs : W.heap.size ≤ W'.heap.size) : lcD (updL L i) (updV V i v) W' := by
  obtain ⟨s4, s7, s12, s15, d4_12, d4_15, d7_12, d7_15⟩ := h
  have l4 : updL L i 4 = L 4 := by simp [updL]; intro e; omega
  have v4 : updV V i v 4 = V 4 := by simp [updV]; intro e; omega
  have l7 : updL L i 7 = L 7 := by simp [updL]; intro e; omega
  have v7 : updV V i v 7 = V 7 := by simp [updV]; intro e; omega
  have l12 : updL L i 12 = L 12 := by simp [updL]; intro e; omega
  have v12 : updV V i v 12 = V 12 := by simp [updV]; intro e; omega
  have l15 : updL L i 15 = L 15 := by simp [updL]; intro e; omega
  have v15 : updV V i v 15 = V 15 := by simp [updV]; intro e; omega
  unfold lcD
  rw [l4, l7, l12, l15, v4, v7, v12, v15]
  exact ⟨(fun a => by have := s4 a; omega), (fun a => by have := s7 a; omega), (fun a => by have := s12 a; omega), (fun a => by have := s15 a; omega), (d4_12), (d4_15), (d7_12), (d7_15)⟩
theorem lcD_4 {W W' : World} {L : Nat → Bool} {V : Nat → Value} {v : Value} (h : lcD L V W) (hs : W.heap.size ≤ W'.heap.size) (h1 : W.heap.size ≤ blkOf v) (h2 : blkOf v < W'.heap.size) : lcD (updL L 4) (updV V 4 v) W' := by
  obtain ⟨s4, s7, s12, s15, d4_12, d4_15, d7_12, d7_15⟩ := h
  have l4 : updL L 4 4 = true := by simp [updL]
  have v4 : updV V 4 v 4 = v := by simp [updV]
  have l7 : updL L 4 7 = L 7 := by simp [updL]
  have v7 : updV V 4 v 7 = V 7 := by simp [updV]
  have l12 : updL L 4 12 = L 12 := by simp [updL]
  have v12 : updV V 4 v 12 = V 12 := by simp [updV]
  have l15 : updL L 4 15 = L 15 := by simp [updL]
  have v15 : updV V 4 v 15 = V 15 := by simp [updV]
  unfold lcD
  rw [l4, l7, l12, l15, v4, v7, v12, v15]
  exact ⟨(fun _ => h2), (fun a => by have := s7 a; omega), (fun a => by have := s12 a; omega), (fun a => by have := s15 a; omega), (fun _ y => by have := s12 y; omega), (fun _ y => by have := s15 y; omega), (d7_12), (d7_15)⟩
theorem lcD_12 {W W' : World} {L : Nat → Bool} {V : Nat → Value} {v : Value} (h : lcD L V W) (hs : W.heap.size ≤ W'.heap.size) (h1 : W.heap.size ≤ blkOf v) (h2 : blkOf v < W'.heap.size) : lcD (updL L 12) (updV V 12 v) W' := by
  obtain ⟨s4, s7, s12, s15, d4_12, d4_15, d7_12, d7_15⟩ := h
  have l4 : updL L 12 4 = L 4 := by simp [updL]
  have v4 : updV V 12 v 4 = V 4 := by simp [updV]
  have l7 : updL L 12 7 = L 7 := by simp [updL]
  have v7 : updV V 12 v 7 = V 7 := by simp [updV]
  have l12 : updL L 12 12 = true := by simp [updL]
  have v12 : updV V 12 v 12 = v := by simp [updV]
  have l15 : updL L 12 15 = L 15 := by simp [updL]
  have v15 : updV V 12 v 15 = V 15 := by simp [updV]
  unfold lcD
  rw [l4, l7, l12, l15, v4, v7, v12, v15]
  exact ⟨(fun a => by have := s4 a; omega), (fun a => by have := s7 a; omega), (fun _ => h2), (fun a => by have := s15 a; omega), (fun y _ => by have := s4 y; omega), (d4_15), (fun y _ => by have := s7 y; omega), (d7_15)⟩
theorem lcD_7 {W W' : World} {L : Nat → Bool} {V : Nat → Value} {v : Value} (h : lcD L V W) (hs : W.heap.size ≤ W'.heap.size) (hl : L 4 = true) (h1 : blkOf v = blkOf (V 4) ∨ W.heap.size ≤ blkOf v) (h2 : blkOf v < W'.heap.size) : lcD (updL L 7) (updV V 7 v) W' := by
  obtain ⟨s4, s7, s12, s15, d4_12, d4_15, d7_12, d7_15⟩ := h
  have l4 : updL L 7 4 = L 4 := by simp [updL]
  have v4 : updV V 7 v 4 = V 4 := by simp [updV]
  have l7 : updL L 7 7 = true := by simp [updL]
  have v7 : updV V 7 v 7 = v := by simp [updV]
  have l12 : updL L 7 12 = L 12 := by simp [updL]
  have v12 : updV V 7 v 12 = V 12 := by simp [updV]
  have l15 : updL L 7 15 = L 15 := by simp [updL]
  have v15 : updV V 7 v 15 = V 15 := by simp [updV]
  unfold lcD
  rw [l4, l7, l12, l15, v4, v7, v12, v15]
  exact ⟨(fun a => by have := s4 a; omega), (fun _ => h2), (fun a => by have := s12 a; omega), (fun a => by have := s15 a; omega), (d4_12), (d4_15), (fun _ y => by have := s12 y; have e := d4_12 hl y; omega), (fun _ y => by have := s15 y; have e := d4_15 hl y; omega)⟩
theorem lcD_15 {W W' : World} {L : Nat → Bool} {V : Nat → Value} {v : Value} (h : lcD L V W) (hs : W.heap.size ≤ W'.heap.size) (hl : L 12 = true) (h1 : blkOf v = blkOf (V 12) ∨ W.heap.size ≤ blkOf v) (h2 : blkOf v < W'.heap.size) : lcD (updL L 15) (updV V 15 v) W' := by
  obtain ⟨s4, s7, s12, s15, d4_12, d4_15, d7_12, d7_15⟩ := h
  have l4 : updL L 15 4 = L 4 := by simp [updL]
  have v4 : updV V 15 v 4 = V 4 := by simp [updV]
  have l7 : updL L 15 7 = L 7 := by simp [updL]
  have v7 : updV V 15 v 7 = V 7 := by simp [updV]
  have l12 : updL L 15 12 = L 12 := by simp [updL]
  have v12 : updV V 15 v 12 = V 12 := by simp [updV]
  have l15 : updL L 15 15 = true := by simp [updL]
  have v15 : updV V 15 v 15 = v := by simp [updV]
  unfold lcD
  rw [l4, l7, l12, l15, v4, v7, v12, v15]
  exact ⟨(fun a => by have := s4 a; omega), (fun a => by have := s7 a; omega), (fun a => by have := s12 a; omega), (fun _ => h2), (d4_12), (fun y _ => by have := s4 y; have e := d4_12 y hl; omega), (d7_12), (fun y _ => by have := s7 y; have e := d7_12 y hl; omega)⟩
def lcT (a0 : Option Addr) (n0 p0 : Nat) (g0_0 g0_1 g0_2 : Nat → Int) (a1 : Option Addr) (n1 p1 : Nat) (g1 : Nat → Int) (v2 : Int) (v3 : Bool) (a4 : Option Addr) (n4 p4 : Nat) (g4 : Nat → Int) (p : Nat) (V : Nat → Value) : Act := { tmps := #[.agg #[.slice a0 n0 p0, .slice a1 n1 p1, .int .i64 v2, .bool v3, .slice a4 n4 p4], .pointer (some ⟨p, 0, none⟩), .pointer (some ⟨p + 1, 0, none⟩), V 0, V 1, V 2, V 3, V 4, V 5, V 6, V 7, V 8, V 9, V 10, V 11, V 12, V 13, V 14, V 15, V 16], defers := [] }
def lcS (a0 : Option Addr) (n0 p0 : Nat) (g0_0 g0_1 g0_2 : Nat → Int) (a1 : Option Addr) (n1 p1 : Nat) (g1 : Nat → Int) (v2 : Int) (v3 : Bool) (a4 : Option Addr) (n4 p4 : Nat) (g4 : Nat → Int) (p B : Nat) : Nat → Value → World → Prop
  | 0, v, w => ∃ b, B ≤ b ∧ v = .slice (some ⟨b, 0, none⟩) 0 0 ∧ w.heap[b]? = some (.cells #[] 155)
  | 1, v, w => v = .pointer (some ⟨p, 0, none⟩)
  | 2, v, w => v = .slice a0 n0 p0
  | 3, v, w => ∃ b c, B ≤ b ∧ v = .slice (some ⟨b, 0, none⟩) n0 c ∧ w.ownsRow b 155 3 (.slice (some ⟨b, 0, none⟩) n0 c) n0 (cellsL (n0 * 3) (allOp g0_0 g0_1 g0_2))
  | 4, v, w => ∃ b, B ≤ b ∧ v = .slice (some ⟨b, 0, none⟩) 0 0 ∧ w.heap[b]? = some (.cells #[] 3)
  | 5, v, w => v = .pointer (some ⟨p, 1, none⟩)
  | 6, v, w => v = .slice a1 n1 p1
  | 7, v, w => ∃ b c, B ≤ b ∧ v = .slice (some ⟨b, 0, none⟩) n1 c ∧ w.ownsRow b 3 1 (.slice (some ⟨b, 0, none⟩) n1 c) n1 (cellsL n1 (allInt g1))
  | 8, v, w => v = .pointer (some ⟨p, 2, none⟩)
  | 9, v, w => v = .int .i64 v2
  | 10, v, w => v = .pointer (some ⟨p, 3, none⟩)
  | 11, v, w => v = .bool v3
  | 12, v, w => ∃ b, B ≤ b ∧ v = .slice (some ⟨b, 0, none⟩) 0 0 ∧ w.heap[b]? = some (.cells #[] 3)
  | 13, v, w => v = .pointer (some ⟨p, 4, none⟩)
  | 14, v, w => v = .slice a4 n4 p4
  | 15, v, w => ∃ b c, B ≤ b ∧ v = .slice (some ⟨b, 0, none⟩) n4 c ∧ w.ownsRow b 3 1 (.slice (some ⟨b, 0, none⟩) n4 c) n4 (cellsL n4 (allInt g4))
  | 16, v, w => ∃ b0 c0 b1 c1 b4 c4, v = .agg #[.slice (some ⟨b0, 0, none⟩) n0 c0, .slice (some ⟨b1, 0, none⟩) n1 c1, .int .i64 v2, .bool v3, .slice (some ⟨b4, 0, none⟩) n4 c4] ∧ B ≤ b0 ∧ B ≤ b1 ∧ B ≤ b4 ∧ w.ownsRow b0 155 3 (.slice (some ⟨b0, 0, none⟩) n0 c0) n0 (cellsL (n0 * 3) (allOp g0_0 g0_1 g0_2)) ∧ w.ownsRow b1 3 1 (.slice (some ⟨b1, 0, none⟩) n1 c1) n1 (cellsL n1 (allInt g1)) ∧ w.ownsRow b4 3 1 (.slice (some ⟨b4, 0, none⟩) n4 c4) n4 (cellsL n4 (allInt g4)) ∧ b1 ≠ b4
  | _, _, _ => True
theorem lcS_keep (a0 : Option Addr) (n0 p0 : Nat) (g0_0 g0_1 g0_2 : Nat → Int) (a1 : Option Addr) (n1 p1 : Nat) (g1 : Nat → Int) (v2 : Int) (v3 : Bool) (a4 : Option Addr) (n4 p4 : Nat) (g4 : Nat → Int) (p B : Nat) : ∀ (j : Nat) (v : Value) (w w' : World), Below w.heap.size w w' → lcS a0 n0 p0 g0_0 g0_1 g0_2 a1 n1 p1 g1 v2 v3 a4 n4 p4 g4 p B j v w → lcS a0 n0 p0 g0_0 g0_1 g0_2 a1 n1 p1 g1 v2 v3 a4 n4 p4 g4 p B j v w' := by
  intro j v w w' h s
  match j, s with
  | 0, s => obtain ⟨b, h1, h2, h3⟩ := s; exact ⟨b, h1, h2, get_below h h3 (size_of_get h3)⟩
  | 1, s => exact s
  | 2, s => exact s
  | 3, s => obtain ⟨b, c, h1, h2, h3⟩ := s; exact ⟨b, c, h1, h2, own_kept h3 h⟩
  | 4, s => obtain ⟨b, h1, h2, h3⟩ := s; exact ⟨b, h1, h2, get_below h h3 (size_of_get h3)⟩
  | 5, s => exact s
  | 6, s => exact s
  | 7, s => obtain ⟨b, c, h1, h2, h3⟩ := s; exact ⟨b, c, h1, h2, own_kept h3 h⟩
  | 8, s => exact s
  | 9, s => exact s
  | 10, s => exact s
  | 11, s => exact s
  | 12, s => obtain ⟨b, h1, h2, h3⟩ := s; exact ⟨b, h1, h2, get_below h h3 (size_of_get h3)⟩
  | 13, s => exact s
  | 14, s => exact s
  | 15, s => obtain ⟨b, c, h1, h2, h3⟩ := s; exact ⟨b, c, h1, h2, own_kept h3 h⟩
  | 16, s => obtain ⟨b0, c0, b1, c1, b4, c4, h1, h2, h3, h4, h5, h6, h7, h8⟩ := s; exact ⟨b0, c0, b1, c1, b4, c4, h1, h2, h3, h4, own_kept h5 h, own_kept h6 h, own_kept h7 h, h8⟩
  | _ + 17, s => trivial
def lcZ (a0 : Option Addr) (n0 p0 : Nat) (g0_0 g0_1 g0_2 : Nat → Int) (a1 : Option Addr) (n1 p1 : Nat) (g1 : Nat → Int) (v2 : Int) (v3 : Bool) (a4 : Option Addr) (n4 p4 : Nat) (g4 : Nat → Int) (p B : Nat) (wr : World) (L : Nat → Bool) (V : Nat → Value) (W : World) : Prop := ∃ b0 c0 b1 c1 b4 c4, V 16 = .agg #[.slice (some ⟨b0, 0, none⟩) n0 c0, .slice (some ⟨b1, 0, none⟩) n1 c1, .int .i64 v2, .bool v3, .slice (some ⟨b4, 0, none⟩) n4 c4] ∧ (B ≤ b0 ∧ B ≤ b1 ∧ B ≤ b4 ∧ W.ownsRow b0 155 3 (.slice (some ⟨b0, 0, none⟩) n0 c0) n0 (cellsL (n0 * 3) (allOp g0_0 g0_1 g0_2)) ∧ W.ownsRow b1 3 1 (.slice (some ⟨b1, 0, none⟩) n1 c1) n1 (cellsL n1 (allInt g1)) ∧ W.ownsRow b4 3 1 (.slice (some ⟨b4, 0, none⟩) n4 c4) n4 (cellsL n4 (allInt g4))) ∧ b1 ≠ b4 ∧ Below p wr W ∧ W.heap[p + 1]? = some (.cells (cond (L 17) #[.slice (some ⟨b0, 0, none⟩) n0 c0, .slice (some ⟨b1, 0, none⟩) n1 c1, .int .i64 v2, .bool v3, .slice (some ⟨b4, 0, none⟩) n4 c4] #[.slice none 0 0, .slice none 0 0, .int .i64 0, .bool false, .slice none 0 0]) 84)
set_option maxRecDepth 100000 in
set_option maxHeartbeats 2000000 in
theorem l10Copy_any (a0 : Option Addr) (n0 p0 : Nat) (g0_0 g0_1 g0_2 : Nat → Int) (a1 : Option Addr) (n1 p1 : Nat) (g1 : Nat → Int) (v2 : Int) (v3 : Bool) (a4 : Option Addr) (n4 p4 : Nat) (g4 : Nat → Int) (w : World) (hn0 : n0 ≤ 4194304) (hn1 : n1 ≤ 4194304) (hn4 : n4 ≤ 4194304) (ha0 : a0 = none → n0 = 0 ∧ p0 = 0) (ha1 : a1 = none → n1 = 0 ∧ p1 = 0) (ha4 : a4 = none → n4 = 0 ∧ p4 = 0) (h0 : OpS w a0 n0 g0_0 g0_1 g0_2) (h1 : IntS w a1 n1 g1) (h4 : IntS w a4 n4 g4) :
    Calls Try.prog 125 #[.agg #[.slice a0 n0 p0, .slice a1 n1 p1, .int .i64 v2, .bool v3, .slice a4 n4 p4]] w fun e w' => ∃ b0 c0 b1 c1 b4 c4, e = .returned (.agg #[.slice (some ⟨b0, 0, none⟩) n0 c0, .slice (some ⟨b1, 0, none⟩) n1 c1, .int .i64 v2, .bool v3, .slice (some ⟨b4, 0, none⟩) n4 c4]) ∧ (w.heap.size ≤ b0 ∧ w.heap.size ≤ b1 ∧ w.heap.size ≤ b4 ∧ b1 ≠ b4 ∧ w'.ownsRow b0 155 3 (.slice (some ⟨b0, 0, none⟩) n0 c0) n0 (cellsL (n0 * 3) (allOp g0_0 g0_1 g0_2)) ∧ w'.ownsRow b1 3 1 (.slice (some ⟨b1, 0, none⟩) n1 c1) n1 (cellsL n1 (allInt g1)) ∧ w'.ownsRow b4 3 1 (.slice (some ⟨b4, 0, none⟩) n4 c4) n4 (cellsL n4 (allInt g4))) ∧ Below w.heap.size w w' := by
  have HA0 : Hid (OpS w a0 n0 g0_0 g0_1 g0_2) := h0
  have HA1 : Hid (IntS w a1 n1 g1) := h1
  have HA4 : Hid (IntS w a4 n4 g4) := h4
  clear h0 h1 h4
  go_enter Try.func125, Try.ntmps125
  go_wp2_with fail
  generalize hwr : ((w.alloc (.cells #[.slice a0 n0 p0, .slice a1 n1 p1, .int .i64 v2, .bool v3, .slice a4 n4 p4] 84)).alloc (.cells #[.slice none 0 0, .slice none 0 0, .int .i64 0, .bool false, .slice none 0 0] 84)) = wr at *
  have hwz : wr.heap.size = w.heap.size + 2 := by rw [← hwr]; simp
  have HW0 : Hid (Below w.heap.size w wr) := by rw [← hwr]; exact ((Below.refl _ _).alloc (Nat.le_refl _) _).alloc (by simp) _
  have HP : Hid (wr.heap[w.heap.size]? = some (.cells #[.slice a0 n0 p0, .slice a1 n1 p1, .int .i64 v2, .bool v3, .slice a4 n4 p4] 84)) := by rw [← hwr]; exact get_alloc (get_new rfl) (by simp)
  have HR : Hid (wr.heap[w.heap.size + 1]? = some (.cells #[.slice none 0 0, .slice none 0 0, .int .i64 0, .bool false, .slice none 0 0] 84)) := by rw [← hwr]; exact get_new (by simp)
  clear hwr
  obtain ⟨B, hB⟩ : ∃ B, B = wr.heap.size := ⟨_, rfl⟩
  refine wp_region_slotsV (by kernel_rfl) (fun j => j == 17) (fun w w' => Below w.heap.size w w') (lcS a0 n0 p0 g0_0 g0_1 g0_2 a1 n1 p1 g1 v2 v3 a4 n4 p4 g4 w.heap.size B) (lcT a0 n0 p0 g0_0 g0_1 g0_2 a1 n1 p1 g1 v2 v3 a4 n4 p4 g4 w.heap.size) (fun L V W => Below B wr W ∧ lcD L V W) (lcZ a0 n0 p0 g0_0 g0_1 g0_2 a1 n1 p1 g1 v2 v3 a4 n4 p4 g4 w.heap.size B wr) _ (by kernel_rfl) (by kernel_rfl) (lcS_keep a0 n0 p0 g0_0 g0_1 g0_2 a1 n1 p1 g1 v2 v3 a4 n4 p4 g4 _ _) (fun _ => undef) _ rfl ?_ ⟨by rw [hB]; exact (Below.refl _ _).drew, lcD_start _ _⟩ ?_ ?_ ?_
  · exact StepAll.cons (fun V v => rfl) (StepAll.cons (fun V v => rfl) (StepAll.cons (fun V v => rfl) (StepAll.cons (fun V v => rfl) (StepAll.cons (fun V v => rfl) (StepAll.cons (fun V v => rfl) (StepAll.cons (fun V v => rfl) (StepAll.cons (fun V v => rfl) (StepAll.cons (fun V v => rfl) (StepAll.cons (fun V v => rfl) (StepAll.cons (fun V v => rfl) (StepAll.cons (fun V v => rfl) (StepAll.cons (fun V v => rfl) (StepAll.cons (fun V v => rfl) (StepAll.cons (fun V v => rfl) (StepAll.cons (fun V v => rfl) (StepAll.cons (fun V v => rfl) (StepAll.cons (fun V v => rfl) (StepAll.nil))))))))))))))))))
  · intro L V W hS hnf hG
    obtain ⟨b0, c0, b1, c1, b4, c4, e16, h1, h2, h3, h4, h5, h6, hne⟩ := (hS 16 (by decide) rfl).1
    have hG := hG.1
    have h17 : L 17 = false := hnf 17 (by decide) rfl
    refine ⟨b0, c0, b1, c1, b4, c4, e16, ⟨h1, h2, h3, h4, h5, h6⟩, hne, hG.mono (by omega), ?_⟩
    rw [h17]; exact get_below hG HR.out (by omega)
  · intro L V W hZ hall
    obtain ⟨b0, c0, b1, c1, b4, c4, e16, ⟨h1, h2, h3, h4, h5, h6⟩, hne, hbz, hF⟩ := hZ
    have h17 : L 17 = true := hall 17 (by decide)
    rw [h17] at hF
    dsimp only [cond] at hF
    dsimp only [lcT]
    rw [e16]
    have HF : Hid _ := hF
    have H4 : Hid _ := h4
    have H5 : Hid _ := h5
    have H6 : Hid _ := h6
    have HBz : Hid _ := hbz
    clear h4 h5 h6 hF hbz e16 hall h17
    go_wp2_with fail
    refine bodyPost_ret (v := .agg #[.slice (some ⟨b0, 0, none⟩) n0 c0, .slice (some ⟨b1, 0, none⟩) n1 c1, .int .i64 v2, .bool v3, .slice (some ⟨b4, 0, none⟩) n4 c4]) (results_cell_row Try.results125 _ _ (w.heap.size + 1) 84 #[.slice (some ⟨b0, 0, none⟩) n0 c0, .slice (some ⟨b1, 0, none⟩) n1 c1, .int .i64 v2, .bool v3, .slice (some ⟨b4, 0, none⟩) n4 c4] (0, 0) _ rfl HF.out Try.underlying84 rfl cellsPart) rfl ⟨b0, c0, b1, c1, b4, c4, rfl, ⟨by omega, by omega, by omega, hne, H4.out, H5.out, H6.out⟩, HW0.out.trans HBz.out⟩
  refine stepNV rfl rfl ?_ (stepNV rfl rfl ?_ (stepNV rfl rfl ?_ (stepNV rfl rfl ?_ (stepNV rfl rfl ?_ (stepNV rfl rfl ?_ (stepNV rfl rfl ?_ (stepNV rfl rfl ?_ (stepNV rfl rfl ?_ (stepNV rfl rfl ?_ (stepNV rfl rfl ?_ (stepNV rfl rfl ?_ (stepNV rfl rfl ?_ (stepNV rfl rfl ?_ (stepNV rfl rfl ?_ (stepNV rfl rfl ?_ (stepNV rfl rfl ?_ (stepFV rfl rfl ?_ StepAll.nil)))))))))))))))))
  · intro L V W hV hG0 hL K hK
    obtain ⟨hG, hD⟩ := hG0
    dsimp only [lcT] at hK ⊢
    go_simp
    exact hK _ (.slice (some ⟨W.heap.size, 0, none⟩) 0 0) _ rfl ((Below.refl _ _).alloc (Nat.le_refl _) _) ⟨hG.alloc (by rw [hB]; exact hG.size) _, lcD_same 0 (by decide) hD (by simp)⟩ ⟨W.heap.size, by rw [hB]; exact hG.size, rfl, get_new rfl⟩
  · intro L V W hV hG0 hL K hK
    obtain ⟨hG, hD⟩ := hG0
    dsimp only [lcT] at hK ⊢
    go_simp
    exact hK _ _ _ rfl (Below.refl _ _) ⟨hG, lcD_same 1 (by decide) hD (Nat.le_refl _)⟩ rfl
  · intro L V W hV hG0 hL K hK
    obtain ⟨hG, hD⟩ := hG0
    dsimp only [lcT] at hK ⊢
    have e1 : V 1 = .pointer (some ⟨w.heap.size, 0, none⟩) := (hV 1 (by kernel_rfl)).1
    rw [e1] at hK ⊢
    clear e1
    have hg := get_below hG HP.out (by omega)
    obtain ⟨k0, k1, k2, k3, k4⟩ := cells5_of hg
    clear hg
    go_simp
    exact hK _ _ _ rfl (Below.refl _ _) ⟨hG, lcD_same 2 (by decide) hD (Nat.le_refl _)⟩ rfl
  · intro L V W hV hG0 hL K hK
    obtain ⟨hG, hD⟩ := hG0
    dsimp only [lcT] at hK ⊢
    obtain ⟨⟨b, hb, eb, hblk⟩, hl⟩ := hV 0 (by kernel_rfl)
    have hbk : blkOf (V 0) = b := by rw [eb]; rfl
    have es : V 2 = .slice a0 n0 p0 := (hV 2 (by kernel_rfl)).1
    rw [eb, es] at hK ⊢
    clear eb es
    obtain ⟨b', cap', w', hrun, hor, hlt', hS', hB'⟩ := append_freshOp W b hblk a0 n0 p0 g0_0 g0_1 g0_2 hn0 ha0 (HA0.out.below (HW0.out.trans (hG.mono (by omega))))
    have hGs := hG.size
    refine wp_append (.tmp 3) (.tmp 5) 74 rfl rfl rfl hrun ?_
    exact hK _ _ _ rfl hB' ⟨hG.trans (hB'.mono (by omega)), lcD_same 3 (by decide) hD hB'.size⟩ ⟨b', cap', by rcases hor with e | e <;> omega, rfl, hS'⟩
  · intro L V W hV hG0 hL K hK
    obtain ⟨hG, hD⟩ := hG0
    dsimp only [lcT] at hK ⊢
    go_simp
    exact hK _ (.slice (some ⟨W.heap.size, 0, none⟩) 0 0) _ rfl ((Below.refl _ _).alloc (Nat.le_refl _) _) ⟨hG.alloc (by rw [hB]; exact hG.size) _, lcD_4 hD (by simp) (Nat.le_refl _) (by simp [blkOf])⟩ ⟨W.heap.size, by rw [hB]; exact hG.size, rfl, get_new rfl⟩
  · intro L V W hV hG0 hL K hK
    obtain ⟨hG, hD⟩ := hG0
    dsimp only [lcT] at hK ⊢
    go_simp
    exact hK _ _ _ rfl (Below.refl _ _) ⟨hG, lcD_same 5 (by decide) hD (Nat.le_refl _)⟩ rfl
  · intro L V W hV hG0 hL K hK
    obtain ⟨hG, hD⟩ := hG0
    dsimp only [lcT] at hK ⊢
    have e5 : V 5 = .pointer (some ⟨w.heap.size, 1, none⟩) := (hV 5 (by kernel_rfl)).1
    rw [e5] at hK ⊢
    clear e5
    have hg := get_below hG HP.out (by omega)
    obtain ⟨k0, k1, k2, k3, k4⟩ := cells5_of hg
    clear hg
    go_simp
    exact hK _ _ _ rfl (Below.refl _ _) ⟨hG, lcD_same 6 (by decide) hD (Nat.le_refl _)⟩ rfl
  · intro L V W hV hG0 hL K hK
    obtain ⟨hG, hD⟩ := hG0
    dsimp only [lcT] at hK ⊢
    obtain ⟨⟨b, hb, eb, hblk⟩, hl⟩ := hV 4 (by kernel_rfl)
    have hbk : blkOf (V 4) = b := by rw [eb]; rfl
    have es : V 6 = .slice a1 n1 p1 := (hV 6 (by kernel_rfl)).1
    rw [eb, es] at hK ⊢
    clear eb es
    obtain ⟨b', cap', w', hrun, hor, hlt', hS', hB'⟩ := append_freshInt W b hblk a1 n1 p1 g1 hn1 ha1 (HA1.out.below (HW0.out.trans (hG.mono (by omega))))
    have hGs := hG.size
    refine wp_append (.tmp 7) (.tmp 9) 78 rfl rfl rfl hrun ?_
    exact hK _ _ _ rfl hB' ⟨hG.trans (hB'.mono (by omega)), lcD_7 hD hB'.size hl (by rw [hbk]; exact hor) hlt'⟩ ⟨b', cap', by rcases hor with e | e <;> omega, rfl, hS'⟩
  · intro L V W hV hG0 hL K hK
    obtain ⟨hG, hD⟩ := hG0
    dsimp only [lcT] at hK ⊢
    go_simp
    exact hK _ _ _ rfl (Below.refl _ _) ⟨hG, lcD_same 8 (by decide) hD (Nat.le_refl _)⟩ rfl
  · intro L V W hV hG0 hL K hK
    obtain ⟨hG, hD⟩ := hG0
    dsimp only [lcT] at hK ⊢
    have e8 : V 8 = .pointer (some ⟨w.heap.size, 2, none⟩) := (hV 8 (by kernel_rfl)).1
    rw [e8] at hK ⊢
    clear e8
    have hg := get_below hG HP.out (by omega)
    obtain ⟨k0, k1, k2, k3, k4⟩ := cells5_of hg
    clear hg
    go_simp
    exact hK _ _ _ rfl (Below.refl _ _) ⟨hG, lcD_same 9 (by decide) hD (Nat.le_refl _)⟩ rfl
  · intro L V W hV hG0 hL K hK
    obtain ⟨hG, hD⟩ := hG0
    dsimp only [lcT] at hK ⊢
    go_simp
    exact hK _ _ _ rfl (Below.refl _ _) ⟨hG, lcD_same 10 (by decide) hD (Nat.le_refl _)⟩ rfl
  · intro L V W hV hG0 hL K hK
    obtain ⟨hG, hD⟩ := hG0
    dsimp only [lcT] at hK ⊢
    have e10 : V 10 = .pointer (some ⟨w.heap.size, 3, none⟩) := (hV 10 (by kernel_rfl)).1
    rw [e10] at hK ⊢
    clear e10
    have hg := get_below hG HP.out (by omega)
    obtain ⟨k0, k1, k2, k3, k4⟩ := cells5_of hg
    clear hg
    go_simp
    exact hK _ _ _ rfl (Below.refl _ _) ⟨hG, lcD_same 11 (by decide) hD (Nat.le_refl _)⟩ rfl
  · intro L V W hV hG0 hL K hK
    obtain ⟨hG, hD⟩ := hG0
    dsimp only [lcT] at hK ⊢
    go_simp
    exact hK _ (.slice (some ⟨W.heap.size, 0, none⟩) 0 0) _ rfl ((Below.refl _ _).alloc (Nat.le_refl _) _) ⟨hG.alloc (by rw [hB]; exact hG.size) _, lcD_12 hD (by simp) (Nat.le_refl _) (by simp [blkOf])⟩ ⟨W.heap.size, by rw [hB]; exact hG.size, rfl, get_new rfl⟩
  · intro L V W hV hG0 hL K hK
    obtain ⟨hG, hD⟩ := hG0
    dsimp only [lcT] at hK ⊢
    go_simp
    exact hK _ _ _ rfl (Below.refl _ _) ⟨hG, lcD_same 13 (by decide) hD (Nat.le_refl _)⟩ rfl
  · intro L V W hV hG0 hL K hK
    obtain ⟨hG, hD⟩ := hG0
    dsimp only [lcT] at hK ⊢
    have e13 : V 13 = .pointer (some ⟨w.heap.size, 4, none⟩) := (hV 13 (by kernel_rfl)).1
    rw [e13] at hK ⊢
    clear e13
    have hg := get_below hG HP.out (by omega)
    obtain ⟨k0, k1, k2, k3, k4⟩ := cells5_of hg
    clear hg
    go_simp
    exact hK _ _ _ rfl (Below.refl _ _) ⟨hG, lcD_same 14 (by decide) hD (Nat.le_refl _)⟩ rfl
  · intro L V W hV hG0 hL K hK
    obtain ⟨hG, hD⟩ := hG0
    dsimp only [lcT] at hK ⊢
    obtain ⟨⟨b, hb, eb, hblk⟩, hl⟩ := hV 12 (by kernel_rfl)
    have hbk : blkOf (V 12) = b := by rw [eb]; rfl
    have es : V 14 = .slice a4 n4 p4 := (hV 14 (by kernel_rfl)).1
    rw [eb, es] at hK ⊢
    clear eb es
    obtain ⟨b', cap', w', hrun, hor, hlt', hS', hB'⟩ := append_freshInt W b hblk a4 n4 p4 g4 hn4 ha4 (HA4.out.below (HW0.out.trans (hG.mono (by omega))))
    have hGs := hG.size
    refine wp_append (.tmp 15) (.tmp 17) 78 rfl rfl rfl hrun ?_
    exact hK _ _ _ rfl hB' ⟨hG.trans (hB'.mono (by omega)), lcD_15 hD hB'.size hl (by rw [hbk]; exact hor) hlt'⟩ ⟨b', cap', by rcases hor with e | e <;> omega, rfl, hS'⟩
  · intro L V W hV hG0 hL K hK
    obtain ⟨hG, hD⟩ := hG0
    dsimp only [lcT] at hK ⊢
    obtain ⟨b0, c0, hb0, e3, h3⟩ := (hV 3 (by kernel_rfl)).1
    obtain ⟨⟨b1, c1, hb1, e7, h7⟩, l7⟩ := hV 7 (by kernel_rfl)
    obtain ⟨⟨b4, c4, hb4, e15, h15⟩, l15⟩ := hV 15 (by kernel_rfl)
    have hne := hD.2.2.2.2.2.2.2 l7 l15
    rw [e7, e15] at hne
    have hne : b1 ≠ b4 := hne
    have e9 : V 9 = .int .i64 v2 := (hV 9 (by kernel_rfl)).1
    have e11 : V 11 = .bool v3 := (hV 11 (by kernel_rfl)).1
    rw [e3, e7, e15, e9, e11] at hK ⊢
    clear e3 e7 e15 e9 e11
    go_simp
    exact hK _ _ _ rfl (Below.refl _ _) ⟨hG, lcD_same 16 (by decide) hD (Nat.le_refl _)⟩ ⟨b0, c0, b1, c1, b4, c4, rfl, hb0, hb1, hb4, h3, h7, h15, hne⟩
  · intro L V W hZ hL K hK
    obtain ⟨b0, c0, b1, c1, b4, c4, e16, ⟨h1, h2, h3, h4, h5, h6⟩, hne, hbz, hF⟩ := hZ
    dsimp only [lcT] at hK ⊢
    have ez : ∀ v, updV V 17 v 16 = V 16 := fun v => by simp [updV]
    rw [hL] at hF
    dsimp only [cond] at hF
    have HF : Hid _ := hF
    have HK : Hid _ := hK
    clear hK
    obtain ⟨k0, k1, k2, k3, k4⟩ := cells5_of hF
    have fz : ∀ j, W.frozen? ⟨w.heap.size + 1, j, none⟩ = false := fun j => frozen_get hF
    clear hF
    have E16 : Hid _ := e16
    rw [e16]
    clear e16
    go_simp
    refine HK.out _ undef _ ?_ ⟨b0, c0, b1, c1, b4, c4, ?_, ⟨h1, h2, h3, own_set (own_set (own_set (own_set (own_set h4 (by omega)) (by omega)) (by omega)) (by omega)) (by omega), own_set (own_set (own_set (own_set (own_set h5 (by omega)) (by omega)) (by omega)) (by omega)) (by omega), own_set (own_set (own_set (own_set (own_set h6 (by omega)) (by omega)) (by omega)) (by omega)) (by omega)⟩, hne, belowS (belowS (belowS (belowS (belowS hbz (by omega)) (by omega)) (by omega)) (by omega)) (by omega), ?_⟩
    · rw [E16.out]; rfl
    · rw [ez]; exact E16.out
    · have e17 : updL L 17 17 = true := by simp [updL]
      rw [e17]
      exact get_set (get_set (get_set (get_set (get_set HF.out rfl) rfl) rfl) rfl) rfl
end Go.Proofs.Ythhibeepfecmdaa
