/- impl.partCopy. -/
import Derived.Test.YthhibeepfecmdaaAfOp
import Derived.Test.YthhibeepfecmdaaAfInt
import Derived.Test.YthhibeepfecmdaaStPart
import Derived.Test.YthhibeepfecmdaaOrdV
import Derived.Test.YthhibeepfecmdaaBlkOf
namespace Go.Proofs.Ythhibeepfecmdaa
open Go.ChangeShapes Go.WideShapes Go.ChangeAt Go.RowKit
set_option linter.unusedVariables false

def pcT (a0 : Option Addr) (n0 p0 : Nat) (g0_0 g0_1 g0_2 : Nat → Int) (a1 : Option Addr) (n1 p1 : Nat) (g1 : Nat → Int) (v2 : Int) (v3 : Bool) (a4 : Option Addr) (n4 p4 : Nat) (g4 : Nat → Int) (p : Nat) (V : Nat → Value) : Act := { tmps := #[.agg #[.slice a0 n0 p0, .slice a1 n1 p1, .int .i64 v2, .bool v3, .slice a4 n4 p4], .pointer (some ⟨p, 0, none⟩), .pointer (some ⟨p + 1, 0, none⟩), V 0, V 1, V 2, V 3, V 4, V 5, V 6, V 7, V 8, V 9, V 11, V 13, undef], defers := [] }
def pcS (a0 : Option Addr) (n0 p0 : Nat) (g0_0 g0_1 g0_2 : Nat → Int) (a1 : Option Addr) (n1 p1 : Nat) (g1 : Nat → Int) (v2 : Int) (v3 : Bool) (a4 : Option Addr) (n4 p4 : Nat) (g4 : Nat → Int) (p B : Nat) : Nat → Value → World → Prop
  | 0, v, w => v = .pointer (some ⟨p, 0, none⟩)
  | 1, v, w => v = .slice a0 n0 p0
  | 2, v, w => ∃ b c, B ≤ b ∧ v = .slice (some ⟨b, 0, none⟩) n0 c ∧ w.ownsRow b 155 3 (.slice (some ⟨b, 0, none⟩) n0 c) n0 (cellsL (n0 * 3) (allOp g0_0 g0_1 g0_2))
  | 3, v, w => v = .pointer (some ⟨p, 1, none⟩)
  | 4, v, w => v = .slice a1 n1 p1
  | 5, v, w => ∃ b c, B ≤ b ∧ v = .slice (some ⟨b, 0, none⟩) n1 c ∧ w.ownsRow b 3 1 (.slice (some ⟨b, 0, none⟩) n1 c) n1 (cellsL n1 (allInt g1))
  | 6, v, w => v = .pointer (some ⟨p, 4, none⟩)
  | 7, v, w => v = .slice a4 n4 p4
  | 8, v, w => ∃ b c, B ≤ b ∧ v = .slice (some ⟨b, 0, none⟩) n4 c ∧ w.ownsRow b 3 1 (.slice (some ⟨b, 0, none⟩) n4 c) n4 (cellsL n4 (allInt g4))
  | 9, v, w => v = .pointer (some ⟨p, 0, none⟩)
  | 11, v, w => v = .pointer (some ⟨p, 1, none⟩)
  | 13, v, w => v = .pointer (some ⟨p, 4, none⟩)
  | _, _, _ => True
theorem pcS_keep (a0 : Option Addr) (n0 p0 : Nat) (g0_0 g0_1 g0_2 : Nat → Int) (a1 : Option Addr) (n1 p1 : Nat) (g1 : Nat → Int) (v2 : Int) (v3 : Bool) (a4 : Option Addr) (n4 p4 : Nat) (g4 : Nat → Int) (p B : Nat) (hp : p < B) : ∀ (j : Nat) (v : Value) (w w' : World), Off [p] w w' → pcS a0 n0 p0 g0_0 g0_1 g0_2 a1 n1 p1 g1 v2 v3 a4 n4 p4 g4 p B j v w → pcS a0 n0 p0 g0_0 g0_1 g0_2 a1 n1 p1 g1 v2 v3 a4 n4 p4 g4 p B j v w' := by
  intro j v w w' h s
  match j, s with
  | 0, s => exact s
  | 1, s => exact s
  | 2, s => obtain ⟨b, c, h1, h2, h3⟩ := s; exact ⟨b, c, h1, h2, own_offs h3 h (fun x hx => by simp at hx; omega)⟩
  | 3, s => exact s
  | 4, s => exact s
  | 5, s => obtain ⟨b, c, h1, h2, h3⟩ := s; exact ⟨b, c, h1, h2, own_offs h3 h (fun x hx => by simp at hx; omega)⟩
  | 6, s => exact s
  | 7, s => exact s
  | 8, s => obtain ⟨b, c, h1, h2, h3⟩ := s; exact ⟨b, c, h1, h2, own_offs h3 h (fun x hx => by simp at hx; omega)⟩
  | 9, s => exact s
  | 10, s => trivial
  | 11, s => exact s
  | 12, s => trivial
  | 13, s => exact s
  | _ + 14, s => trivial
def pcD (L : Nat → Bool) (V : Nat → Value) (W : World) : Prop := (L 2 = true → blkOf (V 2) < W.heap.size) ∧ (L 5 = true → blkOf (V 5) < W.heap.size) ∧ (L 8 = true → blkOf (V 8) < W.heap.size) ∧
  (L 2 = true → L 5 = true → blkOf (V 2) ≠ blkOf (V 5)) ∧ (L 2 = true → L 8 = true → blkOf (V 2) ≠ blkOf (V 8)) ∧ (L 5 = true → L 8 = true → blkOf (V 5) ≠ blkOf (V 8)) ∧
  (L 10 = true → L 1 = true ∧ L 2 = true) ∧ (L 12 = true → L 4 = true ∧ L 5 = true) ∧ (L 14 = true → L 7 = true ∧ L 8 = true)
def pcG (a0 : Option Addr) (n0 p0 : Nat) (a1 : Option Addr) (n1 p1 : Nat) (v2 : Int) (v3 : Bool) (a4 : Option Addr) (n4 p4 : Nat) (p : Nat) (wr : World) (L : Nat → Bool) (V : Nat → Value) (W : World) : Prop :=
  Off [p] wr W ∧ W.heap[p]? = some (.cells #[cond (L 10) (V 2) (.slice a0 n0 p0), cond (L 12) (V 5) (.slice a1 n1 p1), .int .i64 v2, .bool v3, cond (L 14) (V 8) (.slice a4 n4 p4)] 84) ∧ pcD L V W
theorem pcG_0 {a0 : Option Addr} {n0 p0 : Nat} {a1 : Option Addr} {n1 p1 : Nat} {v2 : Int} {v3 : Bool} {a4 : Option Addr} {n4 p4 p : Nat} {wr W : World} {L : Nat → Bool} {V : Nat → Value} (v : Value) (h : pcG a0 n0 p0 a1 n1 p1 v2 v3 a4 n4 p4 p wr L V W) : pcG a0 n0 p0 a1 n1 p1 v2 v3 a4 n4 p4 p wr (updL L 0) (updV V 0 v) W := by
  obtain ⟨g1, g2, g3, g4, g5, g6, g7, g8, g9, g10, g11⟩ := h
  have l1 : updL L 0 1 = L 1 := by simp [updL]
  have l2 : updL L 0 2 = L 2 := by simp [updL]
  have l4 : updL L 0 4 = L 4 := by simp [updL]
  have l5 : updL L 0 5 = L 5 := by simp [updL]
  have l7 : updL L 0 7 = L 7 := by simp [updL]
  have l8 : updL L 0 8 = L 8 := by simp [updL]
  have l10 : updL L 0 10 = L 10 := by simp [updL]
  have l12 : updL L 0 12 = L 12 := by simp [updL]
  have l14 : updL L 0 14 = L 14 := by simp [updL]
  have v2' : updV V 0 v 2 = V 2 := by simp [updV]
  have v5' : updV V 0 v 5 = V 5 := by simp [updV]
  have v8' : updV V 0 v 8 = V 8 := by simp [updV]
  unfold pcG pcD
  rw [l1, l2, l4, l5, l7, l8, l10, l12, l14, v2', v5', v8']
  exact ⟨g1, g2, g3, g4, g5, g6, g7, g8, g9, g10, g11⟩
theorem pcG_1 {a0 : Option Addr} {n0 p0 : Nat} {a1 : Option Addr} {n1 p1 : Nat} {v2 : Int} {v3 : Bool} {a4 : Option Addr} {n4 p4 p : Nat} {wr W : World} {L : Nat → Bool} {V : Nat → Value} (v : Value) (h : pcG a0 n0 p0 a1 n1 p1 v2 v3 a4 n4 p4 p wr L V W) : pcG a0 n0 p0 a1 n1 p1 v2 v3 a4 n4 p4 p wr (updL L 1) (updV V 1 v) W := by
  obtain ⟨g1, g2, g3, g4, g5, g6, g7, g8, g9, g10, g11⟩ := h
  have l1 : updL L 1 1 = true := by simp [updL]
  have l2 : updL L 1 2 = L 2 := by simp [updL]
  have l4 : updL L 1 4 = L 4 := by simp [updL]
  have l5 : updL L 1 5 = L 5 := by simp [updL]
  have l7 : updL L 1 7 = L 7 := by simp [updL]
  have l8 : updL L 1 8 = L 8 := by simp [updL]
  have l10 : updL L 1 10 = L 10 := by simp [updL]
  have l12 : updL L 1 12 = L 12 := by simp [updL]
  have l14 : updL L 1 14 = L 14 := by simp [updL]
  have v2' : updV V 1 v 2 = V 2 := by simp [updV]
  have v5' : updV V 1 v 5 = V 5 := by simp [updV]
  have v8' : updV V 1 v 8 = V 8 := by simp [updV]
  unfold pcG pcD
  rw [l1, l2, l4, l5, l7, l8, l10, l12, l14, v2', v5', v8']
  exact ⟨g1, g2, g3, g4, g5, g6, g7, g8, fun a => ⟨rfl, (g9 a).2⟩, g10, g11⟩
theorem pcG_2 {a0 : Option Addr} {n0 p0 : Nat} {a1 : Option Addr} {n1 p1 : Nat} {v2 : Int} {v3 : Bool} {a4 : Option Addr} {n4 p4 p : Nat} {wr W W' : World} {L : Nat → Bool} {V : Nat → Value} (v : Value) (h : pcG a0 n0 p0 a1 n1 p1 v2 v3 a4 n4 p4 p wr L V W) (hL : L 2 = false) (hb : Below W.heap.size W W') (h1 : W.heap.size ≤ blkOf v) (h2 : blkOf v < W'.heap.size) : pcG a0 n0 p0 a1 n1 p1 v2 v3 a4 n4 p4 p wr (updL L 2) (updV V 2 v) W' := by
  obtain ⟨g1, g2, g3, g4, g5, g6, g7, g8, g9, g10, g11⟩ := h
  have l1 : updL L 2 1 = L 1 := by simp [updL]
  have l2 : updL L 2 2 = true := by simp [updL]
  have l4 : updL L 2 4 = L 4 := by simp [updL]
  have l5 : updL L 2 5 = L 5 := by simp [updL]
  have l7 : updL L 2 7 = L 7 := by simp [updL]
  have l8 : updL L 2 8 = L 8 := by simp [updL]
  have l10 : updL L 2 10 = L 10 := by simp [updL]
  have l12 : updL L 2 12 = L 12 := by simp [updL]
  have l14 : updL L 2 14 = L 14 := by simp [updL]
  have v2' : updV V 2 v 2 = v := by simp [updV]
  have v5' : updV V 2 v 5 = V 5 := by simp [updV]
  have v8' : updV V 2 v 8 = V 8 := by simp [updV]
  unfold pcG pcD
  rw [l1, l2, l4, l5, l7, l8, l10, l12, l14, v2', v5', v8']
  have hs := hb.size
  have hd : L 10 = false := by
    cases hc : L 10 with
    | false => rfl
    | true => have := (g9 hc).2; rw [hL] at this; cases this
  rw [hd] at g2 ⊢
  refine ⟨g1.trans (Off.of_below hb), get_below hb g2 (size_of_get g2), fun _ => h2, fun a => by have := g4 a; omega, fun a => by have := g5 a; omega, fun _ a => by have := g4 a; omega, fun _ a => by have := g5 a; omega, g8, (fun h => by cases h), g10, g11⟩
theorem pcG_3 {a0 : Option Addr} {n0 p0 : Nat} {a1 : Option Addr} {n1 p1 : Nat} {v2 : Int} {v3 : Bool} {a4 : Option Addr} {n4 p4 p : Nat} {wr W : World} {L : Nat → Bool} {V : Nat → Value} (v : Value) (h : pcG a0 n0 p0 a1 n1 p1 v2 v3 a4 n4 p4 p wr L V W) : pcG a0 n0 p0 a1 n1 p1 v2 v3 a4 n4 p4 p wr (updL L 3) (updV V 3 v) W := by
  obtain ⟨g1, g2, g3, g4, g5, g6, g7, g8, g9, g10, g11⟩ := h
  have l1 : updL L 3 1 = L 1 := by simp [updL]
  have l2 : updL L 3 2 = L 2 := by simp [updL]
  have l4 : updL L 3 4 = L 4 := by simp [updL]
  have l5 : updL L 3 5 = L 5 := by simp [updL]
  have l7 : updL L 3 7 = L 7 := by simp [updL]
  have l8 : updL L 3 8 = L 8 := by simp [updL]
  have l10 : updL L 3 10 = L 10 := by simp [updL]
  have l12 : updL L 3 12 = L 12 := by simp [updL]
  have l14 : updL L 3 14 = L 14 := by simp [updL]
  have v2' : updV V 3 v 2 = V 2 := by simp [updV]
  have v5' : updV V 3 v 5 = V 5 := by simp [updV]
  have v8' : updV V 3 v 8 = V 8 := by simp [updV]
  unfold pcG pcD
  rw [l1, l2, l4, l5, l7, l8, l10, l12, l14, v2', v5', v8']
  exact ⟨g1, g2, g3, g4, g5, g6, g7, g8, g9, g10, g11⟩
theorem pcG_4 {a0 : Option Addr} {n0 p0 : Nat} {a1 : Option Addr} {n1 p1 : Nat} {v2 : Int} {v3 : Bool} {a4 : Option Addr} {n4 p4 p : Nat} {wr W : World} {L : Nat → Bool} {V : Nat → Value} (v : Value) (h : pcG a0 n0 p0 a1 n1 p1 v2 v3 a4 n4 p4 p wr L V W) : pcG a0 n0 p0 a1 n1 p1 v2 v3 a4 n4 p4 p wr (updL L 4) (updV V 4 v) W := by
  obtain ⟨g1, g2, g3, g4, g5, g6, g7, g8, g9, g10, g11⟩ := h
  have l1 : updL L 4 1 = L 1 := by simp [updL]
  have l2 : updL L 4 2 = L 2 := by simp [updL]
  have l4 : updL L 4 4 = true := by simp [updL]
  have l5 : updL L 4 5 = L 5 := by simp [updL]
  have l7 : updL L 4 7 = L 7 := by simp [updL]
  have l8 : updL L 4 8 = L 8 := by simp [updL]
  have l10 : updL L 4 10 = L 10 := by simp [updL]
  have l12 : updL L 4 12 = L 12 := by simp [updL]
  have l14 : updL L 4 14 = L 14 := by simp [updL]
  have v2' : updV V 4 v 2 = V 2 := by simp [updV]
  have v5' : updV V 4 v 5 = V 5 := by simp [updV]
  have v8' : updV V 4 v 8 = V 8 := by simp [updV]
  unfold pcG pcD
  rw [l1, l2, l4, l5, l7, l8, l10, l12, l14, v2', v5', v8']
  exact ⟨g1, g2, g3, g4, g5, g6, g7, g8, g9, fun a => ⟨rfl, (g10 a).2⟩, g11⟩
theorem pcG_5 {a0 : Option Addr} {n0 p0 : Nat} {a1 : Option Addr} {n1 p1 : Nat} {v2 : Int} {v3 : Bool} {a4 : Option Addr} {n4 p4 p : Nat} {wr W W' : World} {L : Nat → Bool} {V : Nat → Value} (v : Value) (h : pcG a0 n0 p0 a1 n1 p1 v2 v3 a4 n4 p4 p wr L V W) (hL : L 5 = false) (hb : Below W.heap.size W W') (h1 : W.heap.size ≤ blkOf v) (h2 : blkOf v < W'.heap.size) : pcG a0 n0 p0 a1 n1 p1 v2 v3 a4 n4 p4 p wr (updL L 5) (updV V 5 v) W' := by
  obtain ⟨g1, g2, g3, g4, g5, g6, g7, g8, g9, g10, g11⟩ := h
  have l1 : updL L 5 1 = L 1 := by simp [updL]
  have l2 : updL L 5 2 = L 2 := by simp [updL]
  have l4 : updL L 5 4 = L 4 := by simp [updL]
  have l5 : updL L 5 5 = true := by simp [updL]
  have l7 : updL L 5 7 = L 7 := by simp [updL]
  have l8 : updL L 5 8 = L 8 := by simp [updL]
  have l10 : updL L 5 10 = L 10 := by simp [updL]
  have l12 : updL L 5 12 = L 12 := by simp [updL]
  have l14 : updL L 5 14 = L 14 := by simp [updL]
  have v2' : updV V 5 v 2 = V 2 := by simp [updV]
  have v5' : updV V 5 v 5 = v := by simp [updV]
  have v8' : updV V 5 v 8 = V 8 := by simp [updV]
  unfold pcG pcD
  rw [l1, l2, l4, l5, l7, l8, l10, l12, l14, v2', v5', v8']
  have hs := hb.size
  have hd : L 12 = false := by
    cases hc : L 12 with
    | false => rfl
    | true => have := (g10 hc).2; rw [hL] at this; cases this
  rw [hd] at g2 ⊢
  refine ⟨g1.trans (Off.of_below hb), get_below hb g2 (size_of_get g2), fun a => by have := g3 a; omega, fun _ => h2, fun a => by have := g5 a; omega, fun a _ => by have := g3 a; omega, g7, fun _ a => by have := g5 a; omega, g9, (fun h => by cases h), g11⟩
theorem pcG_6 {a0 : Option Addr} {n0 p0 : Nat} {a1 : Option Addr} {n1 p1 : Nat} {v2 : Int} {v3 : Bool} {a4 : Option Addr} {n4 p4 p : Nat} {wr W : World} {L : Nat → Bool} {V : Nat → Value} (v : Value) (h : pcG a0 n0 p0 a1 n1 p1 v2 v3 a4 n4 p4 p wr L V W) : pcG a0 n0 p0 a1 n1 p1 v2 v3 a4 n4 p4 p wr (updL L 6) (updV V 6 v) W := by
  obtain ⟨g1, g2, g3, g4, g5, g6, g7, g8, g9, g10, g11⟩ := h
  have l1 : updL L 6 1 = L 1 := by simp [updL]
  have l2 : updL L 6 2 = L 2 := by simp [updL]
  have l4 : updL L 6 4 = L 4 := by simp [updL]
  have l5 : updL L 6 5 = L 5 := by simp [updL]
  have l7 : updL L 6 7 = L 7 := by simp [updL]
  have l8 : updL L 6 8 = L 8 := by simp [updL]
  have l10 : updL L 6 10 = L 10 := by simp [updL]
  have l12 : updL L 6 12 = L 12 := by simp [updL]
  have l14 : updL L 6 14 = L 14 := by simp [updL]
  have v2' : updV V 6 v 2 = V 2 := by simp [updV]
  have v5' : updV V 6 v 5 = V 5 := by simp [updV]
  have v8' : updV V 6 v 8 = V 8 := by simp [updV]
  unfold pcG pcD
  rw [l1, l2, l4, l5, l7, l8, l10, l12, l14, v2', v5', v8']
  exact ⟨g1, g2, g3, g4, g5, g6, g7, g8, g9, g10, g11⟩
theorem pcG_7 {a0 : Option Addr} {n0 p0 : Nat} {a1 : Option Addr} {n1 p1 : Nat} {v2 : Int} {v3 : Bool} {a4 : Option Addr} {n4 p4 p : Nat} {wr W : World} {L : Nat → Bool} {V : Nat → Value} (v : Value) (h : pcG a0 n0 p0 a1 n1 p1 v2 v3 a4 n4 p4 p wr L V W) : pcG a0 n0 p0 a1 n1 p1 v2 v3 a4 n4 p4 p wr (updL L 7) (updV V 7 v) W := by
  obtain ⟨g1, g2, g3, g4, g5, g6, g7, g8, g9, g10, g11⟩ := h
  have l1 : updL L 7 1 = L 1 := by simp [updL]
  have l2 : updL L 7 2 = L 2 := by simp [updL]
  have l4 : updL L 7 4 = L 4 := by simp [updL]
  have l5 : updL L 7 5 = L 5 := by simp [updL]
  have l7 : updL L 7 7 = true := by simp [updL]
  have l8 : updL L 7 8 = L 8 := by simp [updL]
  have l10 : updL L 7 10 = L 10 := by simp [updL]
  have l12 : updL L 7 12 = L 12 := by simp [updL]
  have l14 : updL L 7 14 = L 14 := by simp [updL]
  have v2' : updV V 7 v 2 = V 2 := by simp [updV]
  have v5' : updV V 7 v 5 = V 5 := by simp [updV]
  have v8' : updV V 7 v 8 = V 8 := by simp [updV]
  unfold pcG pcD
  rw [l1, l2, l4, l5, l7, l8, l10, l12, l14, v2', v5', v8']
  exact ⟨g1, g2, g3, g4, g5, g6, g7, g8, g9, g10, fun a => ⟨rfl, (g11 a).2⟩⟩
theorem pcG_8 {a0 : Option Addr} {n0 p0 : Nat} {a1 : Option Addr} {n1 p1 : Nat} {v2 : Int} {v3 : Bool} {a4 : Option Addr} {n4 p4 p : Nat} {wr W W' : World} {L : Nat → Bool} {V : Nat → Value} (v : Value) (h : pcG a0 n0 p0 a1 n1 p1 v2 v3 a4 n4 p4 p wr L V W) (hL : L 8 = false) (hb : Below W.heap.size W W') (h1 : W.heap.size ≤ blkOf v) (h2 : blkOf v < W'.heap.size) : pcG a0 n0 p0 a1 n1 p1 v2 v3 a4 n4 p4 p wr (updL L 8) (updV V 8 v) W' := by
  obtain ⟨g1, g2, g3, g4, g5, g6, g7, g8, g9, g10, g11⟩ := h
  have l1 : updL L 8 1 = L 1 := by simp [updL]
  have l2 : updL L 8 2 = L 2 := by simp [updL]
  have l4 : updL L 8 4 = L 4 := by simp [updL]
  have l5 : updL L 8 5 = L 5 := by simp [updL]
  have l7 : updL L 8 7 = L 7 := by simp [updL]
  have l8 : updL L 8 8 = true := by simp [updL]
  have l10 : updL L 8 10 = L 10 := by simp [updL]
  have l12 : updL L 8 12 = L 12 := by simp [updL]
  have l14 : updL L 8 14 = L 14 := by simp [updL]
  have v2' : updV V 8 v 2 = V 2 := by simp [updV]
  have v5' : updV V 8 v 5 = V 5 := by simp [updV]
  have v8' : updV V 8 v 8 = v := by simp [updV]
  unfold pcG pcD
  rw [l1, l2, l4, l5, l7, l8, l10, l12, l14, v2', v5', v8']
  have hs := hb.size
  have hd : L 14 = false := by
    cases hc : L 14 with
    | false => rfl
    | true => have := (g11 hc).2; rw [hL] at this; cases this
  rw [hd] at g2 ⊢
  refine ⟨g1.trans (Off.of_below hb), get_below hb g2 (size_of_get g2), fun a => by have := g3 a; omega, fun a => by have := g4 a; omega, fun _ => h2, g6, fun a _ => by have := g3 a; omega, fun a _ => by have := g4 a; omega, g9, g10, (fun h => by cases h)⟩
theorem pcG_9 {a0 : Option Addr} {n0 p0 : Nat} {a1 : Option Addr} {n1 p1 : Nat} {v2 : Int} {v3 : Bool} {a4 : Option Addr} {n4 p4 p : Nat} {wr W : World} {L : Nat → Bool} {V : Nat → Value} (v : Value) (h : pcG a0 n0 p0 a1 n1 p1 v2 v3 a4 n4 p4 p wr L V W) : pcG a0 n0 p0 a1 n1 p1 v2 v3 a4 n4 p4 p wr (updL L 9) (updV V 9 v) W := by
  obtain ⟨g1, g2, g3, g4, g5, g6, g7, g8, g9, g10, g11⟩ := h
  have l1 : updL L 9 1 = L 1 := by simp [updL]
  have l2 : updL L 9 2 = L 2 := by simp [updL]
  have l4 : updL L 9 4 = L 4 := by simp [updL]
  have l5 : updL L 9 5 = L 5 := by simp [updL]
  have l7 : updL L 9 7 = L 7 := by simp [updL]
  have l8 : updL L 9 8 = L 8 := by simp [updL]
  have l10 : updL L 9 10 = L 10 := by simp [updL]
  have l12 : updL L 9 12 = L 12 := by simp [updL]
  have l14 : updL L 9 14 = L 14 := by simp [updL]
  have v2' : updV V 9 v 2 = V 2 := by simp [updV]
  have v5' : updV V 9 v 5 = V 5 := by simp [updV]
  have v8' : updV V 9 v 8 = V 8 := by simp [updV]
  unfold pcG pcD
  rw [l1, l2, l4, l5, l7, l8, l10, l12, l14, v2', v5', v8']
  exact ⟨g1, g2, g3, g4, g5, g6, g7, g8, g9, g10, g11⟩
theorem pcG_10 {a0 : Option Addr} {n0 p0 : Nat} {a1 : Option Addr} {n1 p1 : Nat} {v2 : Int} {v3 : Bool} {a4 : Option Addr} {n4 p4 p : Nat} {wr W : World} {L : Nat → Bool} {V : Nat → Value} (v : Value) (h : pcG a0 n0 p0 a1 n1 p1 v2 v3 a4 n4 p4 p wr L V W) (hL : L 10 = false) (ha : L 1 = true) (hb : L 2 = true) : pcG a0 n0 p0 a1 n1 p1 v2 v3 a4 n4 p4 p wr (updL L 10) (updV V 10 v) (W.setCell ⟨p, 0, none⟩ (V 2)) := by
  obtain ⟨g1, g2, g3, g4, g5, g6, g7, g8, g9, g10, g11⟩ := h
  have l1 : updL L 10 1 = L 1 := by simp [updL]
  have l2 : updL L 10 2 = L 2 := by simp [updL]
  have l4 : updL L 10 4 = L 4 := by simp [updL]
  have l5 : updL L 10 5 = L 5 := by simp [updL]
  have l7 : updL L 10 7 = L 7 := by simp [updL]
  have l8 : updL L 10 8 = L 8 := by simp [updL]
  have l10 : updL L 10 10 = true := by simp [updL]
  have l12 : updL L 10 12 = L 12 := by simp [updL]
  have l14 : updL L 10 14 = L 14 := by simp [updL]
  have v2' : updV V 10 v 2 = V 2 := by simp [updV]
  have v5' : updV V 10 v 5 = V 5 := by simp [updV]
  have v8' : updV V 10 v 8 = V 8 := by simp [updV]
  unfold pcG pcD
  rw [l1, l2, l4, l5, l7, l8, l10, l12, l14, v2', v5', v8']
  rw [hL] at g2
  have hz : ((W.setCell ⟨p, 0, none⟩ (V 2))).heap.size = W.heap.size := by simp [World.setCell]
  rw [hz]
  exact ⟨g1.set (by simp), get_set g2 rfl, g3, g4, g5, g6, g7, g8, fun _ => ⟨ha, hb⟩, g10, g11⟩
theorem pcG_11 {a0 : Option Addr} {n0 p0 : Nat} {a1 : Option Addr} {n1 p1 : Nat} {v2 : Int} {v3 : Bool} {a4 : Option Addr} {n4 p4 p : Nat} {wr W : World} {L : Nat → Bool} {V : Nat → Value} (v : Value) (h : pcG a0 n0 p0 a1 n1 p1 v2 v3 a4 n4 p4 p wr L V W) : pcG a0 n0 p0 a1 n1 p1 v2 v3 a4 n4 p4 p wr (updL L 11) (updV V 11 v) W := by
  obtain ⟨g1, g2, g3, g4, g5, g6, g7, g8, g9, g10, g11⟩ := h
  have l1 : updL L 11 1 = L 1 := by simp [updL]
  have l2 : updL L 11 2 = L 2 := by simp [updL]
  have l4 : updL L 11 4 = L 4 := by simp [updL]
  have l5 : updL L 11 5 = L 5 := by simp [updL]
  have l7 : updL L 11 7 = L 7 := by simp [updL]
  have l8 : updL L 11 8 = L 8 := by simp [updL]
  have l10 : updL L 11 10 = L 10 := by simp [updL]
  have l12 : updL L 11 12 = L 12 := by simp [updL]
  have l14 : updL L 11 14 = L 14 := by simp [updL]
  have v2' : updV V 11 v 2 = V 2 := by simp [updV]
  have v5' : updV V 11 v 5 = V 5 := by simp [updV]
  have v8' : updV V 11 v 8 = V 8 := by simp [updV]
  unfold pcG pcD
  rw [l1, l2, l4, l5, l7, l8, l10, l12, l14, v2', v5', v8']
  exact ⟨g1, g2, g3, g4, g5, g6, g7, g8, g9, g10, g11⟩
theorem pcG_12 {a0 : Option Addr} {n0 p0 : Nat} {a1 : Option Addr} {n1 p1 : Nat} {v2 : Int} {v3 : Bool} {a4 : Option Addr} {n4 p4 p : Nat} {wr W : World} {L : Nat → Bool} {V : Nat → Value} (v : Value) (h : pcG a0 n0 p0 a1 n1 p1 v2 v3 a4 n4 p4 p wr L V W) (hL : L 12 = false) (ha : L 4 = true) (hb : L 5 = true) : pcG a0 n0 p0 a1 n1 p1 v2 v3 a4 n4 p4 p wr (updL L 12) (updV V 12 v) (W.setCell ⟨p, 1, none⟩ (V 5)) := by
  obtain ⟨g1, g2, g3, g4, g5, g6, g7, g8, g9, g10, g11⟩ := h
  have l1 : updL L 12 1 = L 1 := by simp [updL]
  have l2 : updL L 12 2 = L 2 := by simp [updL]
  have l4 : updL L 12 4 = L 4 := by simp [updL]
  have l5 : updL L 12 5 = L 5 := by simp [updL]
  have l7 : updL L 12 7 = L 7 := by simp [updL]
  have l8 : updL L 12 8 = L 8 := by simp [updL]
  have l10 : updL L 12 10 = L 10 := by simp [updL]
  have l12 : updL L 12 12 = true := by simp [updL]
  have l14 : updL L 12 14 = L 14 := by simp [updL]
  have v2' : updV V 12 v 2 = V 2 := by simp [updV]
  have v5' : updV V 12 v 5 = V 5 := by simp [updV]
  have v8' : updV V 12 v 8 = V 8 := by simp [updV]
  unfold pcG pcD
  rw [l1, l2, l4, l5, l7, l8, l10, l12, l14, v2', v5', v8']
  rw [hL] at g2
  have hz : ((W.setCell ⟨p, 1, none⟩ (V 5))).heap.size = W.heap.size := by simp [World.setCell]
  rw [hz]
  exact ⟨g1.set (by simp), get_set g2 rfl, g3, g4, g5, g6, g7, g8, g9, fun _ => ⟨ha, hb⟩, g11⟩
theorem pcG_13 {a0 : Option Addr} {n0 p0 : Nat} {a1 : Option Addr} {n1 p1 : Nat} {v2 : Int} {v3 : Bool} {a4 : Option Addr} {n4 p4 p : Nat} {wr W : World} {L : Nat → Bool} {V : Nat → Value} (v : Value) (h : pcG a0 n0 p0 a1 n1 p1 v2 v3 a4 n4 p4 p wr L V W) : pcG a0 n0 p0 a1 n1 p1 v2 v3 a4 n4 p4 p wr (updL L 13) (updV V 13 v) W := by
  obtain ⟨g1, g2, g3, g4, g5, g6, g7, g8, g9, g10, g11⟩ := h
  have l1 : updL L 13 1 = L 1 := by simp [updL]
  have l2 : updL L 13 2 = L 2 := by simp [updL]
  have l4 : updL L 13 4 = L 4 := by simp [updL]
  have l5 : updL L 13 5 = L 5 := by simp [updL]
  have l7 : updL L 13 7 = L 7 := by simp [updL]
  have l8 : updL L 13 8 = L 8 := by simp [updL]
  have l10 : updL L 13 10 = L 10 := by simp [updL]
  have l12 : updL L 13 12 = L 12 := by simp [updL]
  have l14 : updL L 13 14 = L 14 := by simp [updL]
  have v2' : updV V 13 v 2 = V 2 := by simp [updV]
  have v5' : updV V 13 v 5 = V 5 := by simp [updV]
  have v8' : updV V 13 v 8 = V 8 := by simp [updV]
  unfold pcG pcD
  rw [l1, l2, l4, l5, l7, l8, l10, l12, l14, v2', v5', v8']
  exact ⟨g1, g2, g3, g4, g5, g6, g7, g8, g9, g10, g11⟩
theorem pcG_14 {a0 : Option Addr} {n0 p0 : Nat} {a1 : Option Addr} {n1 p1 : Nat} {v2 : Int} {v3 : Bool} {a4 : Option Addr} {n4 p4 p : Nat} {wr W : World} {L : Nat → Bool} {V : Nat → Value} (v : Value) (h : pcG a0 n0 p0 a1 n1 p1 v2 v3 a4 n4 p4 p wr L V W) (hL : L 14 = false) (ha : L 7 = true) (hb : L 8 = true) : pcG a0 n0 p0 a1 n1 p1 v2 v3 a4 n4 p4 p wr (updL L 14) (updV V 14 v) (W.setCell ⟨p, 4, none⟩ (V 8)) := by
  obtain ⟨g1, g2, g3, g4, g5, g6, g7, g8, g9, g10, g11⟩ := h
  have l1 : updL L 14 1 = L 1 := by simp [updL]
  have l2 : updL L 14 2 = L 2 := by simp [updL]
  have l4 : updL L 14 4 = L 4 := by simp [updL]
  have l5 : updL L 14 5 = L 5 := by simp [updL]
  have l7 : updL L 14 7 = L 7 := by simp [updL]
  have l8 : updL L 14 8 = L 8 := by simp [updL]
  have l10 : updL L 14 10 = L 10 := by simp [updL]
  have l12 : updL L 14 12 = L 12 := by simp [updL]
  have l14 : updL L 14 14 = true := by simp [updL]
  have v2' : updV V 14 v 2 = V 2 := by simp [updV]
  have v5' : updV V 14 v 5 = V 5 := by simp [updV]
  have v8' : updV V 14 v 8 = V 8 := by simp [updV]
  unfold pcG pcD
  rw [l1, l2, l4, l5, l7, l8, l10, l12, l14, v2', v5', v8']
  rw [hL] at g2
  have hz : ((W.setCell ⟨p, 4, none⟩ (V 8))).heap.size = W.heap.size := by simp [World.setCell]
  rw [hz]
  exact ⟨g1.set (by simp), get_set g2 rfl, g3, g4, g5, g6, g7, g8, g9, g10, fun _ => ⟨ha, hb⟩⟩
theorem pcG_start {a0 : Option Addr} {n0 p0 : Nat} {a1 : Option Addr} {n1 p1 : Nat} {v2 : Int} {v3 : Bool} {a4 : Option Addr} {n4 p4 p : Nat} {wr : World} (h : wr.heap[p]? = some (.cells #[.slice a0 n0 p0, .slice a1 n1 p1, .int .i64 v2, .bool v3, .slice a4 n4 p4] 84)) (V : Nat → Value) : pcG a0 n0 p0 a1 n1 p1 v2 v3 a4 n4 p4 p wr (fun _ => false) V wr.drew := by
  refine ⟨⟨rfl, rfl, rfl, Nat.le_refl _, fun _ _ _ => rfl⟩, h, ?_, ?_, ?_, ?_, ?_, ?_, ?_, ?_, ?_⟩ <;> (intro h; cases h)
def pcZ (a0 : Option Addr) (n0 p0 : Nat) (g0_0 g0_1 g0_2 : Nat → Int) (a1 : Option Addr) (n1 p1 : Nat) (g1 : Nat → Int) (v2 : Int) (v3 : Bool) (a4 : Option Addr) (n4 p4 : Nat) (g4 : Nat → Int) (p B : Nat) (wr : World) (L : Nat → Bool) (V : Nat → Value) (W : World) : Prop := (∀ j, j < 15 → pcS a0 n0 p0 g0_0 g0_1 g0_2 a1 n1 p1 g1 v2 v3 a4 n4 p4 g4 p B j (V j) W) ∧ pcG a0 n0 p0 a1 n1 p1 v2 v3 a4 n4 p4 p wr L V W
set_option maxRecDepth 100000 in
set_option maxHeartbeats 2000000 in
theorem partCopy_any (a0 : Option Addr) (n0 p0 : Nat) (g0_0 g0_1 g0_2 : Nat → Int) (a1 : Option Addr) (n1 p1 : Nat) (g1 : Nat → Int) (v2 : Int) (v3 : Bool) (a4 : Option Addr) (n4 p4 : Nat) (g4 : Nat → Int) (w : World) (hn0 : n0 ≤ 4194304) (hn1 : n1 ≤ 4194304) (hn4 : n4 ≤ 4194304) (ha0 : a0 = none → n0 = 0 ∧ p0 = 0) (ha1 : a1 = none → n1 = 0 ∧ p1 = 0) (ha4 : a4 = none → n4 = 0 ∧ p4 = 0) (h0 : OpS w a0 n0 g0_0 g0_1 g0_2) (h1 : IntS w a1 n1 g1) (h4 : IntS w a4 n4 g4) :
    Calls Try.prog 126 #[.agg #[.slice a0 n0 p0, .slice a1 n1 p1, .int .i64 v2, .bool v3, .slice a4 n4 p4]] w fun e w' => ∃ b0 c0 b1 c1 b4 c4, e = .returned (.agg #[.slice (some ⟨b0, 0, none⟩) n0 c0, .slice (some ⟨b1, 0, none⟩) n1 c1, .int .i64 v2, .bool v3, .slice (some ⟨b4, 0, none⟩) n4 c4]) ∧ (w.heap.size ≤ b0 ∧ w.heap.size ≤ b1 ∧ w.heap.size ≤ b4 ∧ b0 ≠ b1 ∧ b0 ≠ b4 ∧ b1 ≠ b4 ∧ w'.ownsRow b0 155 3 (.slice (some ⟨b0, 0, none⟩) n0 c0) n0 (cellsL (n0 * 3) (allOp g0_0 g0_1 g0_2)) ∧ w'.ownsRow b1 3 1 (.slice (some ⟨b1, 0, none⟩) n1 c1) n1 (cellsL n1 (allInt g1)) ∧ w'.ownsRow b4 3 1 (.slice (some ⟨b4, 0, none⟩) n4 c4) n4 (cellsL n4 (allInt g4))) ∧ Below w.heap.size w w' := by
  have HA0 : Hid (OpS w a0 n0 g0_0 g0_1 g0_2) := h0
  have HA1 : Hid (IntS w a1 n1 g1) := h1
  have HA4 : Hid (IntS w a4 n4 g4) := h4
  have HN0 : Hid _ := ha0
  have HN1 : Hid _ := ha1
  have HN4 : Hid _ := ha4
  clear h0 h1 h4 ha0 ha1 ha4
  go_enter Try.func126, Try.ntmps126
  go_wp2_with fail
  generalize hwr : ((w.alloc (.cells #[.slice a0 n0 p0, .slice a1 n1 p1, .int .i64 v2, .bool v3, .slice a4 n4 p4] 84)).alloc (.cells #[.slice none 0 0, .slice none 0 0, .int .i64 0, .bool false, .slice none 0 0] 84)) = wr at *
  have hwz : wr.heap.size = w.heap.size + 2 := by rw [← hwr]; simp
  have HW0 : Hid (Below w.heap.size w wr) := by rw [← hwr]; exact ((Below.refl _ _).alloc (Nat.le_refl _) _).alloc (by simp) _
  have HP : Hid (wr.heap[w.heap.size]? = some (.cells #[.slice a0 n0 p0, .slice a1 n1 p1, .int .i64 v2, .bool v3, .slice a4 n4 p4] 84)) := by rw [← hwr]; exact get_alloc (get_new rfl) (by simp)
  have HR : Hid (wr.heap[w.heap.size + 1]? = some (.cells #[.slice none 0 0, .slice none 0 0, .int .i64 0, .bool false, .slice none 0 0] 84)) := by rw [← hwr]; exact get_new (by simp)
  clear hwr
  obtain ⟨B, hB⟩ : ∃ B, B = wr.heap.size := ⟨_, rfl⟩
  have hpB : w.heap.size < B := by omega
  refine wp_region_slotsV (by kernel_rfl) (fun _ => false) (Off [w.heap.size]) (pcS a0 n0 p0 g0_0 g0_1 g0_2 a1 n1 p1 g1 v2 v3 a4 n4 p4 g4 w.heap.size B) (pcT a0 n0 p0 g0_0 g0_1 g0_2 a1 n1 p1 g1 v2 v3 a4 n4 p4 g4 w.heap.size) (pcG a0 n0 p0 a1 n1 p1 v2 v3 a4 n4 p4 w.heap.size wr) (pcZ a0 n0 p0 g0_0 g0_1 g0_2 a1 n1 p1 g1 v2 v3 a4 n4 p4 g4 w.heap.size B wr) _ (by kernel_rfl) (by kernel_rfl) (pcS_keep a0 n0 p0 g0_0 g0_1 g0_2 a1 n1 p1 g1 v2 v3 a4 n4 p4 g4 _ _ hpB) (fun _ => undef) _ rfl ?_ (pcG_start HP.out _) ?_ ?_ ?_
  · exact StepAll.cons (fun V v => rfl) (StepAll.cons (fun V v => rfl) (StepAll.cons (fun V v => rfl) (StepAll.cons (fun V v => rfl) (StepAll.cons (fun V v => rfl) (StepAll.cons (fun V v => rfl) (StepAll.cons (fun V v => rfl) (StepAll.cons (fun V v => rfl) (StepAll.cons (fun V v => rfl) (StepAll.cons (fun V v => rfl) (StepAll.cons (fun V v => rfl) (StepAll.cons (fun V v => rfl) (StepAll.cons (fun V v => rfl) (StepAll.cons (fun V v => rfl) (StepAll.cons (fun V v => rfl) (StepAll.nil)))))))))))))))
  · exact fun L V W hS _ hG => ⟨fun j hj => (hS j hj rfl).1, hG⟩
  · intro L V W hZ hall
    obtain ⟨hS, hO, hF, _, _, _, d1, d2, d3, _⟩ := hZ
    obtain ⟨b0, c0, h1, e2, h4⟩ := hS 2 (by decide)
    obtain ⟨b1, c1, h2, e5, h5⟩ := hS 5 (by decide)
    obtain ⟨b4, c4, h3, e8, h6⟩ := hS 8 (by decide)
    have d1 := d1 (hall 2 (by decide)) (hall 5 (by decide))
    have d2 := d2 (hall 2 (by decide)) (hall 8 (by decide))
    have d3 := d3 (hall 5 (by decide)) (hall 8 (by decide))
    rw [e2, e5] at d1
    rw [e2, e8] at d2
    rw [e5, e8] at d3
    have d1 : b0 ≠ b1 := d1
    have d2 : b0 ≠ b4 := d2
    have d3 : b1 ≠ b4 := d3
    rw [hall 10 (by decide), hall 12 (by decide), hall 14 (by decide)] at hF
    dsimp only [cond] at hF
    rw [e2, e5, e8] at hF
    have hR : W.heap[w.heap.size + 1]? = some (.cells #[.slice none 0 0, .slice none 0 0, .int .i64 0, .bool false, .slice none 0 0] 84) := hO.get HR.out (by simp)
    dsimp only [pcT]
    have HF : Hid _ := hF
    have HR2 : Hid _ := hR
    have H4 : Hid _ := h4
    have H5 : Hid _ := h5
    have H6 : Hid _ := h6
    have HO : Hid _ := hO
    obtain ⟨k0, k1, k2, k3, k4⟩ := cells5_of hF
    obtain ⟨q0, q1, q2, q3, q4⟩ := cells5_of hR
    have fz : ∀ j, W.frozen? ⟨w.heap.size + 1, j, none⟩ = false := fun j => frozen_get hR
    clear h4 h5 h6 hF hR hO hS e2 e5 e8 hall
    go_wp2_with fail
    refine bodyPost_ret (v := .agg #[.slice (some ⟨b0, 0, none⟩) n0 c0, .slice (some ⟨b1, 0, none⟩) n1 c1, .int .i64 v2, .bool v3, .slice (some ⟨b4, 0, none⟩) n4 c4]) (results_cell_row Try.results126 _ _ (w.heap.size + 1) 84 #[.slice (some ⟨b0, 0, none⟩) n0 c0, .slice (some ⟨b1, 0, none⟩) n1 c1, .int .i64 v2, .bool v3, .slice (some ⟨b4, 0, none⟩) n4 c4] (0, 0) _ rfl ?_ Try.underlying84 rfl cellsPart) rfl ⟨b0, c0, b1, c1, b4, c4, rfl, ⟨by omega, by omega, by omega, d1, d2, d3, ?_, ?_, ?_⟩, ?_⟩
    · exact get_set (get_set (get_set (get_set (get_set HR2.out rfl) rfl) rfl) rfl) rfl
    · exact own_set (own_set (own_set (own_set (own_set H4.out (by omega)) (by omega)) (by omega)) (by omega)) (by omega)
    · exact own_set (own_set (own_set (own_set (own_set H5.out (by omega)) (by omega)) (by omega)) (by omega)) (by omega)
    · exact own_set (own_set (own_set (own_set (own_set H6.out (by omega)) (by omega)) (by omega)) (by omega)) (by omega)
    · exact belowS (belowS (belowS (belowS (belowS (Off.below HW0.out HO.out HW0.out.size (by simp)) (by omega)) (by omega)) (by omega)) (by omega)) (by omega)
  refine stepNV rfl rfl ?_ (stepNV rfl rfl ?_ (stepNV rfl rfl ?_ (stepNV rfl rfl ?_ (stepNV rfl rfl ?_ (stepNV rfl rfl ?_ (stepNV rfl rfl ?_ (stepNV rfl rfl ?_ (stepNV rfl rfl ?_ (stepNV rfl rfl ?_ (stepNV rfl rfl ?_ (stepNV rfl rfl ?_ (stepNV rfl rfl ?_ (stepNV rfl rfl ?_ (stepNV rfl rfl ?_ (StepAll.nil)))))))))))))))
  · intro L V W hV hG hL K hK
    dsimp only [pcT] at hK ⊢
    go_simp
    exact hK _ _ _ rfl (Off.refl _ _) (pcG_0 _ hG) rfl
  · intro L V W hV hG hL K hK
    dsimp only [pcT] at hK ⊢
    have e0 : V 0 = .pointer (some ⟨w.heap.size, 0, none⟩) := (hV 0 (by kernel_rfl)).1
    rw [e0] at hK ⊢
    clear e0
    have hd : L 10 = false := by
      cases hc : L 10 with
      | false => rfl
      | true => have := (hG.2.2.2.2.2.2.2.2.1 hc).1; rw [hL] at this; cases this
    have hF := hG.2.1
    rw [hd] at hF
    dsimp only [cond] at hF
    obtain ⟨k0, k1, k2, k3, k4⟩ := cells5_of hF
    clear hF
    go_simp
    exact hK _ _ _ rfl (Off.refl _ _) (pcG_1 _ hG) rfl
  · intro L V W hV hG hL K hK
    dsimp only [pcT] at hK ⊢
    have e1 : V 1 = .slice a0 n0 p0 := (hV 1 (by kernel_rfl)).1
    rw [e1] at hK ⊢
    clear e1
    have HG : Hid _ := hG
    have HK : Hid _ := hK
    have hwW := hG.1.size
    have HX : Hid (OpS W a0 n0 g0_0 g0_1 g0_2) := HA0.out.below (Off.below HW0.out hG.1 HW0.out.size (by simp))
    clear hG hK hV
    go_simp
    refine (copiedOp_own a0 n0 p0 g0_0 g0_1 g0_2 W hn0 HN0.out HX.out).mono ?_
    rintro e w1 ⟨b, c, rfl, hb1, hb2, hS, hb⟩
    exact HK.out _ (.slice (some ⟨b, 0, none⟩) n0 c) _ rfl (Off.of_below hb) (pcG_2 _ HG.out hL hb hb1 hb2) ⟨b, c, by omega, rfl, hS⟩
  · intro L V W hV hG hL K hK
    dsimp only [pcT] at hK ⊢
    go_simp
    exact hK _ _ _ rfl (Off.refl _ _) (pcG_3 _ hG) rfl
  · intro L V W hV hG hL K hK
    dsimp only [pcT] at hK ⊢
    have e3 : V 3 = .pointer (some ⟨w.heap.size, 1, none⟩) := (hV 3 (by kernel_rfl)).1
    rw [e3] at hK ⊢
    clear e3
    have hd : L 12 = false := by
      cases hc : L 12 with
      | false => rfl
      | true => have := (hG.2.2.2.2.2.2.2.2.2.1 hc).1; rw [hL] at this; cases this
    have hF := hG.2.1
    rw [hd] at hF
    dsimp only [cond] at hF
    obtain ⟨k0, k1, k2, k3, k4⟩ := cells5_of hF
    clear hF
    go_simp
    exact hK _ _ _ rfl (Off.refl _ _) (pcG_4 _ hG) rfl
  · intro L V W hV hG hL K hK
    dsimp only [pcT] at hK ⊢
    have e4 : V 4 = .slice a1 n1 p1 := (hV 4 (by kernel_rfl)).1
    rw [e4] at hK ⊢
    clear e4
    have HG : Hid _ := hG
    have HK : Hid _ := hK
    have hwW := hG.1.size
    have HX : Hid (IntS W a1 n1 g1) := HA1.out.below (Off.below HW0.out hG.1 HW0.out.size (by simp))
    clear hG hK hV
    go_simp
    refine (copiedInt_own a1 n1 p1 g1 W hn1 HN1.out HX.out).mono ?_
    rintro e w1 ⟨b, c, rfl, hb1, hb2, hS, hb⟩
    exact HK.out _ (.slice (some ⟨b, 0, none⟩) n1 c) _ rfl (Off.of_below hb) (pcG_5 _ HG.out hL hb hb1 hb2) ⟨b, c, by omega, rfl, hS⟩
  · intro L V W hV hG hL K hK
    dsimp only [pcT] at hK ⊢
    go_simp
    exact hK _ _ _ rfl (Off.refl _ _) (pcG_6 _ hG) rfl
  · intro L V W hV hG hL K hK
    dsimp only [pcT] at hK ⊢
    have e6 : V 6 = .pointer (some ⟨w.heap.size, 4, none⟩) := (hV 6 (by kernel_rfl)).1
    rw [e6] at hK ⊢
    clear e6
    have hd : L 14 = false := by
      cases hc : L 14 with
      | false => rfl
      | true => have := (hG.2.2.2.2.2.2.2.2.2.2 hc).1; rw [hL] at this; cases this
    have hF := hG.2.1
    rw [hd] at hF
    dsimp only [cond] at hF
    obtain ⟨k0, k1, k2, k3, k4⟩ := cells5_of hF
    clear hF
    go_simp
    exact hK _ _ _ rfl (Off.refl _ _) (pcG_7 _ hG) rfl
  · intro L V W hV hG hL K hK
    dsimp only [pcT] at hK ⊢
    have e7 : V 7 = .slice a4 n4 p4 := (hV 7 (by kernel_rfl)).1
    rw [e7] at hK ⊢
    clear e7
    have HG : Hid _ := hG
    have HK : Hid _ := hK
    have hwW := hG.1.size
    have HX : Hid (IntS W a4 n4 g4) := HA4.out.below (Off.below HW0.out hG.1 HW0.out.size (by simp))
    clear hG hK hV
    go_simp
    refine (copiedInt_own a4 n4 p4 g4 W hn4 HN4.out HX.out).mono ?_
    rintro e w1 ⟨b, c, rfl, hb1, hb2, hS, hb⟩
    exact HK.out _ (.slice (some ⟨b, 0, none⟩) n4 c) _ rfl (Off.of_below hb) (pcG_8 _ HG.out hL hb hb1 hb2) ⟨b, c, by omega, rfl, hS⟩
  · intro L V W hV hG hL K hK
    dsimp only [pcT] at hK ⊢
    go_simp
    exact hK _ _ _ rfl (Off.refl _ _) (pcG_9 _ hG) rfl
  · intro L V W hV hG hL K hK
    dsimp only [pcT] at hK ⊢
    obtain ⟨hs2, hl2⟩ := hV 2 (by kernel_rfl)
    have hl1 := (hV 1 (by kernel_rfl)).2
    have e9 : V 9 = .pointer (some ⟨w.heap.size, 0, none⟩) := (hV 9 (by kernel_rfl)).1
    have hg := pcG_10 undef hG hL hl1 hl2
    obtain ⟨b, cc, hb, ec, hrow⟩ := hs2
    have hF := hG.2.1
    rw [hL] at hF
    dsimp only [cond] at hF
    obtain ⟨k0, k1, k2, k3, k4⟩ := cells5_of hF
    have fz : ∀ j, W.frozen? ⟨w.heap.size, j, none⟩ = false := fun j => frozen_get hF
    rw [ec] at hg
    have HGx : Hid _ := hg
    clear hg hF hG hV hrow
    rw [e9, ec] at hK ⊢
    have HK : Hid _ := hK
    clear hK e9 ec
    go_simp
    exact HK.out _ undef _ rfl ((Off.refl _ _).set (by simp)) HGx.out trivial
  · intro L V W hV hG hL K hK
    dsimp only [pcT] at hK ⊢
    go_simp
    exact hK _ _ _ rfl (Off.refl _ _) (pcG_11 _ hG) rfl
  · intro L V W hV hG hL K hK
    dsimp only [pcT] at hK ⊢
    obtain ⟨hs5, hl5⟩ := hV 5 (by kernel_rfl)
    have hl4 := (hV 4 (by kernel_rfl)).2
    have e11 : V 11 = .pointer (some ⟨w.heap.size, 1, none⟩) := (hV 11 (by kernel_rfl)).1
    have hg := pcG_12 undef hG hL hl4 hl5
    obtain ⟨b, cc, hb, ec, hrow⟩ := hs5
    have hF := hG.2.1
    rw [hL] at hF
    dsimp only [cond] at hF
    obtain ⟨k0, k1, k2, k3, k4⟩ := cells5_of hF
    have fz : ∀ j, W.frozen? ⟨w.heap.size, j, none⟩ = false := fun j => frozen_get hF
    rw [ec] at hg
    have HGx : Hid _ := hg
    clear hg hF hG hV hrow
    rw [e11, ec] at hK ⊢
    have HK : Hid _ := hK
    clear hK e11 ec
    go_simp
    exact HK.out _ undef _ rfl ((Off.refl _ _).set (by simp)) HGx.out trivial
  · intro L V W hV hG hL K hK
    dsimp only [pcT] at hK ⊢
    go_simp
    exact hK _ _ _ rfl (Off.refl _ _) (pcG_13 _ hG) rfl
  · intro L V W hV hG hL K hK
    dsimp only [pcT] at hK ⊢
    obtain ⟨hs8, hl8⟩ := hV 8 (by kernel_rfl)
    have hl7 := (hV 7 (by kernel_rfl)).2
    have e13 : V 13 = .pointer (some ⟨w.heap.size, 4, none⟩) := (hV 13 (by kernel_rfl)).1
    have hg := pcG_14 undef hG hL hl7 hl8
    obtain ⟨b, cc, hb, ec, hrow⟩ := hs8
    have hF := hG.2.1
    rw [hL] at hF
    dsimp only [cond] at hF
    obtain ⟨k0, k1, k2, k3, k4⟩ := cells5_of hF
    have fz : ∀ j, W.frozen? ⟨w.heap.size, j, none⟩ = false := fun j => frozen_get hF
    rw [ec] at hg
    have HGx : Hid _ := hg
    clear hg hF hG hV hrow
    rw [e13, ec] at hK ⊢
    have HK : Hid _ := hK
    clear hK e13 ec
    go_simp
    exact HK.out _ undef _ rfl ((Off.refl _ _).set (by simp)) HGx.out trivial
end Go.Proofs.Ythhibeepfecmdaa
