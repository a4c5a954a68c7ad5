/- Blocks of a call's own: what stays when only some blocks are written; rows of cells. Nothing of the program. -/
import Derived.Test.YtfienpoebndfpaaHeap
import Derived.Laws.AppendOwn
import Derived.Laws.OwnMore
import Derived.Tactics
namespace Go.Proofs.Ytfienpoebndfpaa
open Go.RowKit
set_option linter.unusedVariables false
/-- All blocks but those of S stay. -/
structure Off (S : List Nat) (w w' : World) : Prop where
  os : w'.os = w.os
  tape : w'.tape = w.tape
  output : w'.output = w.output
  size : w.heap.size ≤ w'.heap.size
  block : ∀ k, k < w.heap.size → k ∉ S → w'.heap[k]? = w.heap[k]?
theorem Off.refl (S : List Nat) (w : World) : Off S w w := ⟨rfl, rfl, rfl, Nat.le_refl _, fun _ _ _ => rfl⟩
theorem Off.trans {S : List Nat} {a b c : World} (h : Off S a b) (k : Off S b c) : Off S a c :=
  ⟨k.os.trans h.os, k.tape.trans h.tape, k.output.trans h.output, Nat.le_trans h.size k.size, fun i hi hs => (k.block i (Nat.lt_of_lt_of_le hi h.size) hs).trans (h.block i hi hs)⟩
theorem Off.mono {S T : List Nat} {a b : World} (h : Off S a b) (hs : ∀ x, x ∈ S → x ∈ T) : Off T a b :=
  ⟨h.os, h.tape, h.output, h.size, fun i hi ht => h.block i hi fun e => ht (hs i e)⟩
theorem Off.of_below {S : List Nat} {w w' : World} (h : Below w.heap.size w w') : Off S w w' := ⟨h.os, h.tape, h.output, h.size, fun i hi _ => h.block i hi⟩
theorem Off.below {S : List Nat} {B : Nat} {w0 w w' : World} (h : Below B w0 w) (k : Off S w w') (hB : B ≤ w.heap.size) (hs : ∀ x, x ∈ S → B ≤ x) : Below B w0 w' :=
  ⟨k.os.trans h.os, k.tape.trans h.tape, k.output.trans h.output, Nat.le_trans h.size k.size, fun i hi => (k.block i (Nat.lt_of_lt_of_le hi hB) fun e => Nat.lt_irrefl _ (Nat.lt_of_lt_of_le hi (hs i e))).trans (h.block i hi)⟩
theorem Off.set {S : List Nat} {a w : World} (h : Off S a w) {g : Nat} (hg : g ∈ S) {j : Nat} {c : Value} : Off S a (w.setCell ⟨g, j, none⟩ c) :=
  ⟨h.os, h.tape, h.output, by simpa [World.setCell] using h.size, fun i hi hs => (Below.heap_setCell w ⟨g, j, none⟩ c i (fun e => hs (e ▸ hg))).trans (h.block i hi hs)⟩
theorem Off.get {S : List Nat} {w w' : World} {g : Nat} {o : Obj} (h : Off S w w') (k : w.heap[g]? = some o) (hg : g ∉ S) : w'.heap[g]? = some o := (h.block g (size_of_get k) hg).trans k
theorem Off.cell {S : List Nat} {w w' : World} {p : Addr} {v : Value} (h : Off S w w') (k : w.cell? p = some v) (hg : p.block ∉ S) : w'.cell? p = some v :=
  (World.cell?_of_block (h.block p.block (block_lt_of_cell k) hg)).trans k
/-- Nothing of the block is frozen. -/
def Free (w : World) (b : Nat) : Prop := ∀ q, w.frozen? ⟨b, q, none⟩ = false
theorem Free.of_get {w : World} {b : Nat} {cs : Array Value} {t : TypeId} (h : w.heap[b]? = some (.cells cs t)) : Free w b := fun q => frozen_get h
theorem Free.below {w w' : World} {b : Nat} (h : Free w b) (hb : Below w.heap.size w w') (hlt : b < w.heap.size) : Free w' b := fun q => (hb.frozen (p := ⟨b, q, none⟩) hlt).trans (h q)
theorem Free.off {S : List Nat} {w w' : World} {b : Nat} (h : Free w b) (k : Off S w w') (hlt : b < w.heap.size) (hS : b ∉ S) : Free w' b := fun q => (World.frozen?_of_block (k.block b hlt hS)).trans (h q)
theorem Free.set {w : World} {b : Nat} (h : Free w b) {p : Addr} {v : Value} : Free (w.setCell p v) b := fun q => by rw [World.frozen?_setCell]; exact h q
/-- A slice of n that lies in the block b. -/
def In (b : Nat) (a : Option Addr) (n : Nat) : Prop := n = 0 ∨ ∃ off, a = some ⟨b, off, none⟩
theorem In.mk (b off n : Nat) : In b (some ⟨b, off, none⟩) n := .inr ⟨off, rfl⟩
/-- The block b, where there is something in it. -/
def own (b n : Nat) : List Nat := if n = 0 then [] else [b]
theorem own_ne {x y n : Nat} (h : n ≠ 0 → y ≠ x) : y ∉ own x n := by
  unfold own; split
  · simp
  · simp; exact h (by assumption)
theorem own_app {y : Nat} {A B : List Nat} (h : y ∉ A) (k : y ∉ B) : y ∉ A ++ B := by simp [h, k]
theorem own_ge {x n B : Nat} (h : n ≠ 0 → B ≤ x) : ∀ y, y ∈ own x n → B ≤ y := by
  unfold own; split
  · simp
  · simp; exact h (by assumption)
theorem app_ge {B : Nat} {L M : List Nat} (h : ∀ y, y ∈ L → B ≤ y) (k : ∀ y, y ∈ M → B ≤ y) : ∀ y, y ∈ L ++ M → B ≤ y := by
  intro y hy
  rcases List.mem_append.1 hy with h1 | h1
  · exact h y h1
  · exact k y h1
theorem Off.one {b n : Nat} {w w' : World} (h : Off [b] w w') (hn : n ≠ 0) : Off (own b n) w w' := by
  have e : own b n = [b] := by simp [own, hn]
  rw [e]; exact h
/-- A row of cells. -/
def FRow (w : World) (b off N : Nat) (F : Nat → Value) : Prop := ∀ q, q < N → w.cell? ⟨b, off + q, none⟩ = some (F q)
theorem FRow.set {w : World} {b off N : Nat} {F : Nat → Value} (h : FRow w b off N F) {q0 : Nat} (hq : q0 < N) (v : Value) : FRow (w.setCell ⟨b, off + q0, none⟩ v) b off N (fun q => if q = q0 then v else F q) := by
  intro q hqN
  by_cases e : q = q0
  · subst e
    rw [World.cell?_setCell_same (h := h q hqN)]; simp
  · have hne : (⟨b, off + q0, none⟩ : Addr) ≠ ⟨b, off + q, none⟩ := by intro e2; have e3 := congrArg Addr.off e2; exact e (Nat.add_left_cancel e3).symm
    rw [World.cell?_setCell_other (h := hne), h q hqN]; simp [e]
theorem FRow.congr {w : World} {b off N : Nat} {F G : Nat → Value} (h : FRow w b off N F) (e : ∀ q, q < N → F q = G q) : FRow w b off N G := fun q hq => by rw [h q hq, e q hq]
theorem FRow.below {w w' : World} {b off N : Nat} {F : Nat → Value} (h : FRow w b off N F) (hb : Below w.heap.size w w') : FRow w' b off N F := fun q hq => (hb.cell (p := ⟨b, off + q, none⟩) (block_lt_of_cell (h q hq))).trans (h q hq)
/-- The first n elements' cells as a list. -/
def cellsL (N : Nat) (F : Nat → Value) : List Value := (List.range N).map F
theorem cellsL_length (N : Nat) (F : Nat → Value) : (cellsL N F).length = N := by simp [cellsL]
theorem cellsL_get {N : Nat} {F : Nat → Value} {j : Nat} {u : Value} (h : (cellsL N F)[j]? = some u) : j < N ∧ u = F j := by
  simp only [cellsL, List.getElem?_map] at h
  by_cases e : j < N
  · simp [e] at h
    exact ⟨e, h.symm⟩
  · simp [e] at h
theorem cellsL_at {N : Nat} {F : Nat → Value} {j : Nat} (h : j < N) : (cellsL N F)[j]? = some (F j) := by simp [cellsL, h]
theorem FRow.src {w : World} {b off N : Nat} {F : Nat → Value} (h : FRow w b off N F) : ∀ j u, (cellsL N F)[j]? = some u → w.cell? ((⟨b, off, none⟩ : Addr).add j) = some u := by
  intro j u hj
  obtain ⟨h1, rfl⟩ := cellsL_get hj
  have : (⟨b, off, none⟩ : Addr).add j = ⟨b, off + j, none⟩ := by unfold Addr.add; split <;> simp_all
  rw [this]; exact h j h1
/-- What append's law gives, as a row of a block of the call's own. -/
theorem own_row {w : World} {base n size : Nat} {e : TypeId} {v : Value} {F : Nat → Value} (h : w.ownsRow base e size v n (cellsL (n * size) F)) :
    ∃ (a : Option Addr) (cap : Nat), v = .slice a n cap ∧ ((n = 0 ∧ a = none) ∨ ∃ b, a = some ⟨b, 0, none⟩ ∧ base ≤ b ∧ b < w.heap.size ∧ Free w b ∧ FRow w b 0 (n * size) F) := by
  obtain ⟨hl, ⟨rfl, rfl⟩ | ⟨g, cap, cur, rfl, hb, hg, hnc, hcm, hcs, ht⟩⟩ := h
  · exact ⟨none, 0, rfl, .inl ⟨rfl, rfl⟩⟩
  · refine ⟨_, cap, rfl, .inr ⟨g, rfl, hb, size_of_get hg, Free.of_get hg, fun q hq => ?_⟩⟩
    refine cell_get hg ?_
    have h1 : (cur.toList.take (n * size))[q]? = some (F q) := by rw [ht]; exact cellsL_at hq
    rw [List.getElem?_take, if_pos hq] at h1
    rw [Nat.zero_add]
    simpa using h1
theorem own_off {w w' : World} {row : Option Nat} {S : List Nat} (h : w.grownBy w' row) (hs : ∀ b, row = some b → b ∈ S) : Off S w w' :=
  ⟨h.os, h.tape, h.output, h.size, fun k hk hn => h.block k hk fun e => hn (hs k e.symm)⟩
theorem own_below {w w' : World} {row : Option Nat} {B : Nat} {w0 : World} (hb : Below B w0 w) (h : w.grownBy w' row) (hB : B ≤ w.heap.size) (hs : ∀ b, row = some b → B ≤ b) : Below B w0 w' :=
  ⟨h.os.trans hb.os, h.tape.trans hb.tape, h.output.trans hb.output, Nat.le_trans hb.size h.size, fun k hk => (h.block k (Nat.lt_of_lt_of_le hk hB) fun e => Nat.lt_irrefl _ (Nat.lt_of_lt_of_le hk (hs k e.symm))).trans (hb.block k hk)⟩
theorem own_base {w : World} {base size n m cap b : Nat} {e : TypeId} {xs : List Value} (h : w.ownsRow base e size (.slice (some ⟨b, 0, none⟩) m cap) n xs) : w.ownsRow b e size (.slice (some ⟨b, 0, none⟩) m cap) n xs := by
  obtain ⟨h1, h2⟩ := h
  refine ⟨h1, ?_⟩
  rcases h2 with ⟨h3, _⟩ | ⟨g, c, cur, h3, h4, h5⟩
  · cases h3
  · cases h3; exact .inr ⟨b, cap, cur, rfl, Nat.le_refl _, h5⟩
theorem own_kept {w w' : World} {base size n : Nat} {e : TypeId} {v : Value} {xs : List Value} (h : w.ownsRow base e size v n xs) (hb : Below w.heap.size w w') : w'.ownsRow base e size v n xs := by
  obtain ⟨h1, h2⟩ := h
  refine ⟨h1, ?_⟩
  rcases h2 with h3 | ⟨g, c, cur, h3, h4, h5, h6⟩
  · exact .inl h3
  · exact .inr ⟨g, c, cur, h3, h4, get_below hb h5 (size_of_get h5), h6⟩
theorem own_offs {S : List Nat} {w w' : World} {base size n : Nat} {e : TypeId} {v : Value} {xs : List Value} (h : w.ownsRow base e size v n xs) (hb : Off S w w') (hS : ∀ x, x ∈ S → x < base) : w'.ownsRow base e size v n xs := by
  obtain ⟨h1, h2⟩ := h
  refine ⟨h1, ?_⟩
  rcases h2 with h3 | ⟨g, c, cur, h3, h4, h5, h6⟩
  · exact .inl h3
  · exact .inr ⟨g, c, cur, h3, h4, hb.get h5 (fun e => by have := hS g e; omega), h6⟩
theorem own_set {w : World} {base size n g j : Nat} {e : TypeId} {v c : Value} {xs : List Value} (h : w.ownsRow base e size v n xs) (hg : g < base) : (w.setCell ⟨g, j, none⟩ c).ownsRow base e size v n xs := by
  obtain ⟨h1, h2⟩ := h
  refine ⟨h1, ?_⟩
  rcases h2 with h3 | ⟨b, c, cur, h3, h4, h5, h6⟩
  · exact .inl h3
  · exact .inr ⟨b, c, cur, h3, h4, get_set_ne h5 (by omega), h6⟩
theorem wp_append {P : Program} {o : Oper} {a : Act} {w w' : World} {K : Act → World → Prop} {Q : Exit → Act → World → Prop} (s x : Operand) (t : TypeId) (hop : o.op = Op.call { callee := Callee.builtin Builtin.append, args := #[s, x], argTypes := #[t, t] })
    {v1 v2 v' : Value} (hs : a.eval s = v1) (hx : a.eval x = v2) (hrun : (Builtin.append_ #[t, t] o.type #[v1, v2]).run P w = .ok v' w') (hK : K (a.put o.dst v') w') : Oper.wp P o a w K Q := by
  unfold Oper.wp
  simp [execOp, hop, resolve, invoke, builtin, hs, hx, hrun, Result.andThen]
  exact hK
end Go.Proofs.Ytfienpoebndfpaa
