/- What a block holds behind stores and new blocks; results that lie in a block. Nothing of the program. -/
import Derived.Below
import Derived.Laws.Rows
import Derived.WalkKit
import Derived.Deep.QuietTactic
import Derived.BigQuiet
namespace Go.Proofs.Ytfienpoebndfpaa
open Go.RowKit
set_option linter.unusedVariables false
variable {P : Program}
theorem get_set {w : World} {g j : Nat} {t : TypeId} {cs cs' : Array Value} {fr : Nat × Nat} {c : Value} (h : w.heap[g]? = some (.cells cs t fr)) (e : cs.setIfInBounds j c = cs') :
    (w.setCell ⟨g, j, none⟩ c).heap[g]? = some (.cells cs' t fr) := by
  subst e
  simp only [World.setCell, Array.getElem?_modify, h]
  simp
theorem get_set_ne {w : World} {g g' j : Nat} {c : Value} {o : Option Obj} (h : w.heap[g]? = o) (e : g ≠ g') : (w.setCell ⟨g', j, none⟩ c).heap[g]? = o :=
  (Below.heap_setCell w ⟨g', j, none⟩ c g e).trans h
theorem get_alloc {w : World} {g : Nat} {x : Obj} {o : Option Obj} (h : w.heap[g]? = o) (e : g < w.heap.size) : (w.alloc x).heap[g]? = o :=
  (Below.heap_alloc w x g e).trans h
theorem get_new {w : World} {x : Obj} {g : Nat} (e : g = w.heap.size) : (w.alloc x).heap[g]? = some x := by subst e; exact heap_alloc_new w x
theorem get_below {B : Nat} {w w' : World} {g : Nat} {o : Option Obj} (h : Below B w w') (k : w.heap[g]? = o) (e : g < B) : w'.heap[g]? = o := (h.block g e).trans k
theorem cell_get {w : World} {g j : Nat} {t : TypeId} {cs : Array Value} {fr : Nat × Nat} {v : Value} (h : w.heap[g]? = some (.cells cs t fr)) (e : cs[j]? = some v) : w.cell? ⟨g, j, none⟩ = some v := by
  simp [World.cell?, h, e]
theorem frozen_get {w : World} {g j : Nat} {t : TypeId} {cs : Array Value} (h : w.heap[g]? = some (.cells cs t)) : w.frozen? ⟨g, j, none⟩ = false := by
  simp [World.frozen?, h]
theorem size_of_get {w : World} {g : Nat} {o : Obj} (h : w.heap[g]? = some o) : g < w.heap.size := by
  rcases Nat.lt_or_ge g w.heap.size with k | k
  · exact k
  · rw [Array.getElem?_eq_none k] at h; cases h

theorem results_row_tmp {fn : Func} {p q : Tmp} {ty : TypeId} (h : fn.results = #[.cell p ty, .tmp q]) (tmps : Array Value) (w : World) (g : Nat) (t : TypeId) (cs : Array Value) (fr : Nat × Nat) (d : TypeDesc)
    (hp : tmps.getD p undef = .pointer (some ⟨g, 0, none⟩)) (hg : w.heap[g]? = some (.cells cs t fr))
    (hu : P.underlying ty = some d) (hd : (match d with | .struct _ | .array _ _ => true | _ => false) = true) (hi : (P.info? ty).map (·.size) = some cs.size) (v : Value) (hq : tmps.getD q undef = v) :
    (results fn tmps).run P w = .ok (.tuple #[.agg cs, v]) w := by
  have hp' : tmps[p]?.getD undef = .pointer (some ⟨g, 0, none⟩) := by simpa using hp
  have hq' : tmps[q]?.getD undef = v := by simpa using hq
  simp [results, h, hp', hq', asAddr, run_loadVar_row w g t ty cs fr d hg hu hd hi]
theorem results_row_row_tmp {fn : Func} {p p2 q : Tmp} {ty ty2 : TypeId} (h : fn.results = #[.cell p ty, .cell p2 ty2, .tmp q]) (tmps : Array Value) (w : World) (g : Nat) (t : TypeId) (cs : Array Value) (fr : Nat × Nat) (d : TypeDesc)
    (hp : tmps.getD p undef = .pointer (some ⟨g, 0, none⟩)) (hg : w.heap[g]? = some (.cells cs t fr))
    (hu : P.underlying ty = some d) (hd : (match d with | .struct _ | .array _ _ => true | _ => false) = true) (hi : (P.info? ty).map (·.size) = some cs.size)
    (g2 : Nat) (t2 : TypeId) (cs2 : Array Value) (fr2 : Nat × Nat) (d2 : TypeDesc)
    (hp2 : tmps.getD p2 undef = .pointer (some ⟨g2, 0, none⟩)) (hg2 : w.heap[g2]? = some (.cells cs2 t2 fr2))
    (hu2 : P.underlying ty2 = some d2) (hd2 : (match d2 with | .struct _ | .array _ _ => true | _ => false) = true) (hi2 : (P.info? ty2).map (·.size) = some cs2.size)
    (v : Value) (hq : tmps.getD q undef = v) :
    (results fn tmps).run P w = .ok (.tuple #[.agg cs, .agg cs2, v]) w := by
  have hp' : tmps[p]?.getD undef = .pointer (some ⟨g, 0, none⟩) := by simpa using hp
  have hp2' : tmps[p2]?.getD undef = .pointer (some ⟨g2, 0, none⟩) := by simpa using hp2
  have hq' : tmps[q]?.getD undef = v := by simpa using hq
  simp [results, h, hp', hp2', hq', asAddr, run_loadVar_row w g t ty cs fr d hg hu hd hi, run_loadVar_row w g2 t2 ty2 cs2 fr2 d2 hg2 hu2 hd2 hi2]
theorem bcell0 {W w1 : World} (hb : Below W.heap.size W w1) : (∀ b o, b < W.heap.size → w1.cell? ⟨b, o, none⟩ = W.cell? ⟨b, o, none⟩) ∧ (∀ b o, b < W.heap.size → w1.frozen? ⟨b, o, none⟩ = W.frozen? ⟨b, o, none⟩) :=
  ⟨fun b o h => hb.cell (p := ⟨b, o, none⟩) h, fun b o h => hb.frozen (p := ⟨b, o, none⟩) h⟩
theorem belowN {B : Nat} {a w : World} (h : Below B a w) (n : Nat) : Below B a (w.drewN n) := ⟨h.os, h.tape, h.output, h.size, h.block⟩
theorem wrap_id (n : Int) (h0 : 0 ≤ n) (h1 : n < 4611686018427387904) : IntKind.i64.wrap n = n := by
  simp only [IntKind.wrap, IntKind.bits, IntKind.signed]
  simp
  omega
theorem belowS {B : Nat} {a w : World} (h : Below B a w) {g : Nat} (hB : B ≤ g) {j : Nat} {c : Value} : Below B a (w.setCell ⟨g, j, none⟩ c) := h.setCell (p := ⟨g, j, none⟩) hB c
theorem bk {k : Nat} {W0 W : World} (h : Below k W0 W) : (∀ b o, b < k → W.cell? ⟨b, o, none⟩ = W0.cell? ⟨b, o, none⟩) ∧ (∀ b o, b < k → W.frozen? ⟨b, o, none⟩ = W0.frozen? ⟨b, o, none⟩) :=
  ⟨fun b o hb => h.cell (p := ⟨b, o, none⟩) hb, fun b o hb => h.frozen (p := ⟨b, o, none⟩) hb⟩
theorem hidA {k : Nat} {W0 W W' : World} (h : Hid (Below k W0 W)) (hb : Below W.heap.size W W') (hk : k ≤ W0.heap.size := by simp) : Hid (Below k W0 W') := h.out.trans (hb.mono (Nat.le_trans hk h.out.size))
theorem hidB {k : Nat} {W0 W W' : World} (h : Hid (Below k W0 W)) (hb : Below W.drew.heap.size W.drew W') (hk : k ≤ W0.heap.size := by simp) : Hid (Below k W0 W') := h.out.drew.trans (hb.mono (Nat.le_trans hk h.out.size))
theorem cells5_of {w : World} {g : Nat} {t : TypeId} {v0 v1 v2 v3 v4 : Value} {fr : Nat × Nat} (h : w.heap[g]? = some (.cells #[v0, v1, v2, v3, v4] t fr)) :
    w.cell? ⟨g, 0, none⟩ = some v0 ∧ w.cell? ⟨g, 1, none⟩ = some v1 ∧ w.cell? ⟨g, 2, none⟩ = some v2 ∧ w.cell? ⟨g, 3, none⟩ = some v3 ∧ w.cell? ⟨g, 4, none⟩ = some v4 :=
  ⟨cell_get h rfl, cell_get h rfl, cell_get h rfl, cell_get h rfl, cell_get h rfl⟩
theorem keep6 {k : Nat} {W0 W W' : World} {p0 p1 p2 p3 p4 p5 : Addr} {v0 v1 v2 v3 v4 v5 : Value} (h : Below k W0 W ∧ W.cell? p0 = some v0 ∧ W.cell? p1 = some v1 ∧ W.cell? p2 = some v2 ∧ W.cell? p3 = some v3 ∧ W.cell? p4 = some v4 ∧ W.cell? p5 = some v5) (hb : Below W.heap.size W W') (hk : k ≤ W0.heap.size := by simp) :
    Below k W0 W' ∧ W'.cell? p0 = some v0 ∧ W'.cell? p1 = some v1 ∧ W'.cell? p2 = some v2 ∧ W'.cell? p3 = some v3 ∧ W'.cell? p4 = some v4 ∧ W'.cell? p5 = some v5 := by
  obtain ⟨h, h0, h1, h2, h3, h4, h5⟩ := h
  exact ⟨h.trans (hb.mono (Nat.le_trans hk h.size)), (hb.cell (block_lt_of_cell h0)).trans h0, (hb.cell (block_lt_of_cell h1)).trans h1, (hb.cell (block_lt_of_cell h2)).trans h2, (hb.cell (block_lt_of_cell h3)).trans h3, (hb.cell (block_lt_of_cell h4)).trans h4, (hb.cell (block_lt_of_cell h5)).trans h5⟩
theorem ltOf {W W' : World} (hb : Below W.heap.size W W') : ∀ b, b < W.heap.size → b < W'.heap.size := fun b h => Nat.lt_of_lt_of_le h hb.size
theorem get_hid {W W' : World} {g : Nat} {o : Obj} (h : Hid (Below W.heap.size W W')) (k : W.heap[g]? = some o) : W'.heap[g]? = some o := (h.out.block g (size_of_get k)).trans k
theorem ret_tuple2 {a b c d : Value} (h : a = c) (k : b = d) : Ending.returned (.tuple #[a, b]) = .returned (.tuple #[c, d]) := by rw [h, k]
end Go.Proofs.Ytfienpoebndfpaa
