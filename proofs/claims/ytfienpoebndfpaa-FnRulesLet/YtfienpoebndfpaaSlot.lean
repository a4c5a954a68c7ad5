/- What a slot of a drawing region may hold, and that it stays. -/
import Derived.Test.YtfienpoebndfpaaDrawG
import Derived.Test.YtfienpoebndfpaaOrdJ
namespace Go.Proofs.Ytfienpoebndfpaa
open Go.ChangeShapes Go.WideShapes Go.ChangeAt Go.RowKit
set_option linter.unusedVariables false
section
variable {P : Program} {ops : Array Oper} {Q : Exit → Act → World → Prop} {md : Region.Mode} {fin : Nat → Bool} {R : World → World → Prop} {S : Nat → Value → World → Prop} {T : (Nat → Value) → Act} {G : (Nat → Bool) → World → Prop} {Z : (Nat → Bool) → (Nat → Value) → World → Prop} {n : Nat} {o : Oper} {l : List Oper}
/-- What an operation owes that has no guard. -/
def Owed (P : Program) (md : Region.Mode) (Q : Exit → Act → World → Prop) (R : World → World → Prop) (S : Nat → Value → World → Prop) (T : (Nat → Value) → Act) (G : (Nat → Bool) → World → Prop) (i : Nat) (o : Oper) : Prop :=
  ∀ L V w, (∀ j, waits md o j = true → S j (V j) w) → G L w → L i = false →
    ∀ K : Act → World → Prop, (∀ a' v w', a' = (T V).put o.dst v → R w w' → G (updL L i) w' → S i v w' → K a' w') → Oper.wp P o (T V) w K Q
def OwedF (P : Program) (Q : Exit → Act → World → Prop) (Z : (Nat → Bool) → (Nat → Value) → World → Prop) (T : (Nat → Value) → Act) (i : Nat) (o : Oper) : Prop :=
  ∀ L V w, Z L V w → L i = false → ∀ K : Act → World → Prop, (∀ a' v w', a' = (T V).put o.dst v → Z (updL L i) (updV V i v) w' → K a' w') → Oper.wp P o (T V) w K Q
theorem wanted_none {y : Nat → Option Bool} (h : o.guard = none) : Region.wanted o y = true := by simp [Region.wanted, h]
theorem stepN (hfi : fin n = false) (hgd : o.guard = none) (h : Owed P md Q R S T G n o) (hs : StepAll (fun i o => if fin i = true then OwesF P ops Q Z T i o else Owes P md ops Q R S T G i o) l (n + 1)) :
    StepAll (fun i o => if fin i = true then OwesF P ops Q Z T i o else Owes P md ops Q R S T G i o) (o :: l) n := by
  refine ⟨?_, hs⟩
  simp only [hfi, Bool.false_eq_true, if_false]
  intro L V w h1 h2 h3 K hK
  rw [if_pos (wanted_none hgd)]
  exact h L V w h1 h2 h3 K hK
theorem stepF (hfi : fin n = true) (hgd : o.guard = none) (h : OwedF P Q Z T n o) (hs : StepAll (fun i o => if fin i = true then OwesF P ops Q Z T i o else Owes P md ops Q R S T G i o) l (n + 1)) :
    StepAll (fun i o => if fin i = true then OwesF P ops Q Z T i o else Owes P md ops Q R S T G i o) (o :: l) n := by
  refine ⟨?_, hs⟩
  simp only [hfi, if_true]
  intro L V w h1 h2 K hK
  rw [if_pos (wanted_none hgd)]
  exact h L V w h1 h2 K hK
end
theorem wrap_in (n : Int) (h0 : -4611686018427387904 ≤ n) (h1 : n < 4611686018427387904) : IntKind.i64.wrap n = n := by
  simp only [IntKind.wrap, IntKind.bits, IntKind.signed]
  simp
  omega
def SNat (hi : Nat) (v : Value) : Prop := ∃ x : Nat, x ≤ hi ∧ v = .int .i64 (x : Int)
def SInt (lo hi : Int) (v : Value) : Prop := ∃ x : Int, lo ≤ x ∧ x ≤ hi ∧ v = .int .i64 x
def SStr (m : Nat) (v : Value) : Prop := ∃ s : ByteArray, s.size ≤ m ∧ v = .string s
/-- A slice of k numbers in lo..hi, in a block from base on. -/
def SInts (base k : Nat) (lo hi : Int) (v : Value) (w : World) : Prop := ∃ b, base ≤ b ∧ b < w.heap.size ∧ v = .slice (some ⟨b, 0, none⟩) k k ∧ ∀ i, i < k → ∃ y : Int, lo ≤ y ∧ y ≤ hi ∧ w.cell? ⟨b, i, none⟩ = some (.int .i64 y)
/-- The place of a number in lo..hi, in a block from base on. -/
def SElem (base : Nat) (lo hi : Int) (v : Value) (w : World) : Prop := ∃ b i y, base ≤ b ∧ b < w.heap.size ∧ v = .pointer (some ⟨b, i, none⟩) ∧ lo ≤ y ∧ y ≤ hi ∧ w.cell? ⟨b, i, none⟩ = some (.int .i64 y)
/-- A slice of k texts of up to m bytes. -/
def SStrs (base k m : Nat) (v : Value) (w : World) : Prop := ∃ b, base ≤ b ∧ b < w.heap.size ∧ v = .slice (some ⟨b, 0, none⟩) k k ∧ ∀ i, i < k → ∃ y : ByteArray, y.size ≤ m ∧ w.cell? ⟨b, i, none⟩ = some (.string y)
/-- The place of a text of up to m bytes, in a block from base on. -/
def SElemS (base m : Nat) (v : Value) (w : World) : Prop := ∃ b i y, base ≤ b ∧ b < w.heap.size ∧ v = .pointer (some ⟨b, i, none⟩) ∧ (y : ByteArray).size ≤ m ∧ w.cell? ⟨b, i, none⟩ = some (.string y)
/-- A new block as it is made. -/
def SNew (base : Nat) (o : Obj) (v : Value) (w : World) : Prop := ∃ b, base ≤ b ∧ v = .pointer (some ⟨b, 0, none⟩) ∧ w.heap[b]? = some o
section
variable {g base : Nat} {w w' : World} {v : Value}
theorem SInts.keep {k : Nat} {lo hi : Int} (hg : g < base) (h : Only g w w') (s : SInts base k lo hi v w) : SInts base k lo hi v w' := by
  obtain ⟨b, h0, h1, h2, h3⟩ := s
  refine ⟨b, h0, Nat.lt_of_lt_of_le h1 h.size, h2, fun i hi => ?_⟩
  obtain ⟨y, a, c, d⟩ := h3 i hi
  exact ⟨y, a, c, (h.cell (p := ⟨b, i, none⟩) h1 (by simp; omega)).trans d⟩
theorem SStrs.keep {k m : Nat} (hg : g < base) (h : Only g w w') (s : SStrs base k m v w) : SStrs base k m v w' := by
  obtain ⟨b, h0, h1, h2, h3⟩ := s
  refine ⟨b, h0, Nat.lt_of_lt_of_le h1 h.size, h2, fun i hi => ?_⟩
  obtain ⟨y, a, d⟩ := h3 i hi
  exact ⟨y, a, (h.cell (p := ⟨b, i, none⟩) h1 (by simp; omega)).trans d⟩
theorem SElem.keep {lo hi : Int} (hg : g < base) (h : Only g w w') (s : SElem base lo hi v w) : SElem base lo hi v w' := by
  obtain ⟨b, i, y, h0, h1, h2, h3, h4, h5⟩ := s
  exact ⟨b, i, y, h0, Nat.lt_of_lt_of_le h1 h.size, h2, h3, h4, (h.cell (p := ⟨b, i, none⟩) h1 (by simp; omega)).trans h5⟩
theorem SElemS.keep {m : Nat} (hg : g < base) (h : Only g w w') (s : SElemS base m v w) : SElemS base m v w' := by
  obtain ⟨b, i, y, h0, h1, h2, h3, h5⟩ := s
  exact ⟨b, i, y, h0, Nat.lt_of_lt_of_le h1 h.size, h2, h3, (h.cell (p := ⟨b, i, none⟩) h1 (by simp; omega)).trans h5⟩
theorem SNew.keep {o : Obj} (hg : g < base) (h : Only g w w') (s : SNew base o v w) : SNew base o v w' := by
  obtain ⟨b, h0, h1, h2⟩ := s
  exact ⟨b, h0, h1, get_only h h2 (by omega)⟩
theorem SInts.new {T : TypeId} {lo hi : Int} (l : List Int) (k : Nat) (hk : l.length = k) (hb : base ≤ w.heap.size) (hl : ∀ x ∈ l, lo ≤ x ∧ x ≤ hi) :
    SInts base k lo hi (.slice (some ⟨w.heap.size, 0, none⟩) k k) (w.alloc (.cells (l.map (Value.int .i64 ·)).toArray T)) := by
  subst hk
  refine ⟨w.heap.size, hb, by simp, rfl, fun i hi' => ⟨l[i], (hl _ (List.getElem_mem hi')).1, (hl _ (List.getElem_mem hi')).2, Ints.new l i hi'⟩⟩
theorem SStrs.new {T : TypeId} {m : Nat} (l : List ByteArray) (k : Nat) (hk : l.length = k) (hb : base ≤ w.heap.size) (hl : ∀ x ∈ l, x.size ≤ m) :
    SStrs base k m (.slice (some ⟨w.heap.size, 0, none⟩) k k) (w.alloc (.cells (l.map (Value.string ·)).toArray T)) := by
  subst hk
  refine ⟨w.heap.size, hb, by simp, rfl, fun i hi' => ⟨l[i], hl _ (List.getElem_mem hi'), Strs.new l i hi'⟩⟩
end
/-- Of the blocks that were there only those of p may have turned. -/
structure OnlyP (p : Nat → Prop) (w w' : World) : Prop where
  os : w'.os = w.os
  tape : w'.tape = w.tape
  output : w'.output = w.output
  size : w.heap.size ≤ w'.heap.size
  block : ∀ k, k < w.heap.size → ¬ p k → w'.heap[k]? = w.heap[k]?
section
variable {p : Nat → Prop} {g base : Nat} {w w' : World} {v : Value}
theorem OnlyP.refl (p : Nat → Prop) (w : World) : OnlyP p w w := ⟨rfl, rfl, rfl, Nat.le_refl _, fun _ _ _ => rfl⟩
theorem OnlyP.trans {a b c : World} (h : OnlyP p a b) (k : OnlyP p b c) : OnlyP p a c :=
  ⟨k.os.trans h.os, k.tape.trans h.tape, k.output.trans h.output, Nat.le_trans h.size k.size, fun i hi hg => (k.block i (Nat.lt_of_lt_of_le hi h.size) hg).trans (h.block i hi hg)⟩
theorem OnlyP.of_only (hp : p g) (h : Only g w w') : OnlyP p w w' := ⟨h.os, h.tape, h.output, h.size, fun k hk hn => h.block k hk (fun e => hn (by rw [e]; exact hp))⟩
theorem OnlyP.alloc {a : World} (h : OnlyP p a w) (o : Obj) : OnlyP p a (w.alloc o) := h.trans ⟨rfl, rfl, rfl, by simp, fun k hk _ => Below.heap_alloc _ _ _ hk⟩
theorem OnlyP.drew {a : World} (h : OnlyP p a w) : OnlyP p a w.drew := ⟨h.os, h.tape, h.output, h.size, h.block⟩
theorem OnlyP.set {a : World} {b j : Nat} {c : Value} (h : OnlyP p a w) (hb : p b) : OnlyP p a (w.setCell ⟨b, j, none⟩ c) :=
  h.trans ⟨rfl, rfl, rfl, by simp [World.setCell], fun k hk hn => Below.heap_setCell _ _ _ _ (fun e => hn (by rw [e]; exact hb))⟩
theorem get_onlyP {b : Nat} {o : Obj} (h : OnlyP p w w') (k : w.heap[b]? = some o) (e : ¬ p b) : w'.heap[b]? = some o := (h.block b (size_of_get k) e).trans k
theorem OnlyP.below {B : Nat} (h : OnlyP p w w') (hB : ∀ k, k < B → ¬ p k) (hs : B ≤ w.heap.size) : Below B w w' :=
  ⟨h.os, h.tape, h.output, h.size, fun k hk => h.block k (by omega) (hB k hk)⟩
theorem OnlyP.cell (h : OnlyP p w w') {q : Addr} (hq : q.block < w.heap.size) (hn : ¬ p q.block) : w'.cell? q = w.cell? q := World.cell?_of_block (w := w) (h.block q.block hq hn)
/-- A block none of whose cells is a byte. -/
def NoU8 (cs : Array Value) : Prop := ∀ (o : Nat) (z : Int), cs[o]? ≠ some (.int .u8 z)
theorem noU8 {cs : Array Value} (h : cs.all (fun v => match v with | .int .u8 _ => false | _ => true) = true) : NoU8 cs := by
  intro o z e
  rw [Array.all_eq_true'] at h
  have := h _ (Array.mem_of_getElem? e)
  simp at this
/-- The reader stays where a block without bytes is written. -/
theorem Rd.keepT {N r : Nat} {t : TypeId} {cs : Array Value} (h : Rd N w g) (hr : r ≠ g) (hz : w.heap[r]? = some (.cells cs t)) (hno : NoU8 cs) (hk : OnlyP (fun k => k = r) w w') : Rd N w' g := by
  have hgl := h.lt
  obtain ⟨q, av, len, cap, hp, hl, h0, h1, hf, hd⟩ := h
  have hc : ∀ b o, b < w.heap.size → b ≠ r → w'.cell? ⟨b, o, none⟩ = w.cell? ⟨b, o, none⟩ := fun b o hb hn => World.cell?_of_block (w := w) (hk.block b hb hn)
  have hfz : w'.frozen? ⟨g, 1, none⟩ = w.frozen? ⟨g, 1, none⟩ := World.frozen?_of_block (w := w) (hk.block g hgl (Ne.symm hr))
  refine ⟨q, av, len, cap, hp, hl, by rw [hc _ _ hgl (Ne.symm hr)]; exact h0, by rw [hc _ _ hgl (Ne.symm hr)]; exact h1, by rw [hfz]; exact hf, ?_⟩
  rcases hd with hd | ⟨b, off, ha, hbg, hd⟩
  · exact .inl hd
  · by_cases hb : b = r
    · rcases Nat.eq_zero_or_pos len with h0 | h0
      · exact .inl h0
      · obtain ⟨z, hz1, hz2⟩ := hd 0 h0
        subst hb
        simp only [World.cell?, hz] at hz2
        exact absurd hz2 (hno _ _)
    · refine .inr ⟨b, off, ha, hbg, fun i hi => ?_⟩
      obtain ⟨z, hz1, hz2⟩ := hd i hi
      exact ⟨z, hz1, by rw [hc _ _ (by omega) hb]; exact hz2⟩
theorem SInts.keepP {k : Nat} {lo hi : Int} (hp : ∀ k, base ≤ k → ¬ p k) (h : OnlyP p w w') (s : SInts base k lo hi v w) : SInts base k lo hi v w' := by
  obtain ⟨b, h0, h1, h2, h3⟩ := s
  refine ⟨b, h0, Nat.lt_of_lt_of_le h1 h.size, h2, fun i hi => ?_⟩
  obtain ⟨y, a, c, d⟩ := h3 i hi
  exact ⟨y, a, c, (h.cell (q := ⟨b, i, none⟩) h1 (hp b h0)).trans d⟩
theorem SStrs.keepP {k m : Nat} (hp : ∀ k, base ≤ k → ¬ p k) (h : OnlyP p w w') (s : SStrs base k m v w) : SStrs base k m v w' := by
  obtain ⟨b, h0, h1, h2, h3⟩ := s
  refine ⟨b, h0, Nat.lt_of_lt_of_le h1 h.size, h2, fun i hi => ?_⟩
  obtain ⟨y, a, d⟩ := h3 i hi
  exact ⟨y, a, (h.cell (q := ⟨b, i, none⟩) h1 (hp b h0)).trans d⟩
theorem SElem.keepP {lo hi : Int} (hp : ∀ k, base ≤ k → ¬ p k) (h : OnlyP p w w') (s : SElem base lo hi v w) : SElem base lo hi v w' := by
  obtain ⟨b, i, y, h0, h1, h2, h3, h4, h5⟩ := s
  exact ⟨b, i, y, h0, Nat.lt_of_lt_of_le h1 h.size, h2, h3, h4, (h.cell (q := ⟨b, i, none⟩) h1 (hp b h0)).trans h5⟩
theorem SNew.keepP {o : Obj} (hp : ∀ k, base ≤ k → ¬ p k) (h : OnlyP p w w') (s : SNew base o v w) : SNew base o v w' := by
  obtain ⟨b, h0, h1, h2⟩ := s
  exact ⟨b, h0, h1, get_onlyP h h2 (hp b h0)⟩
/-- The list behind bounds. -/
theorem list_of {α : Type} {k : Nat} {p : Nat → α → Prop} (h : ∀ i, i < k → ∃ y, p i y) : ∃ l : List α, l.length = k ∧ ∀ i, (hi : i < l.length) → p i l[i] := by
  induction k with
  | zero => exact ⟨[], rfl, fun i hi => by cases hi⟩
  | succ k ih =>
    obtain ⟨l, h1, h2⟩ := ih (fun i hi => h i (by omega))
    obtain ⟨y, hy⟩ := h k (by omega)
    refine ⟨l ++ [y], by simp [h1], fun i hi => ?_⟩
    rcases Nat.lt_or_ge i l.length with e | e
    · rw [List.getElem_append_left e]; exact h2 i e
    · have : i = k := by simp at hi; omega
      subst this
      rw [List.getElem_append_right e]; simpa using hy
theorem mem_of_all {α : Type} {l : List α} {q : α → Prop} (h : ∀ i, (hi : i < l.length) → q l[i]) {y : α} (hy : y ∈ l) : q y := by
  obtain ⟨i, hi, rfl⟩ := List.mem_iff_getElem.1 hy
  exact h i hi
theorem one_in (N k : Nat) (lo hi : Int) (hN : N ≤ 536870912) (hk : 1 ≤ k) (hk2 : k ≤ 1000) (hr : Rd N w g) (hg : g < base) (b : Nat) (hb : base ≤ b) (hc : ∀ i, i < k → ∃ y : Int, lo ≤ y ∧ y ≤ hi ∧ w.cell? ⟨b, i, none⟩ = some (.int .i64 y)) :
    Calls Try.prog 71 #[.pointer (some ⟨g, 0, none⟩), .slice (some ⟨b, 0, none⟩) k k] w fun e w' => ∃ y : Int, lo ≤ y ∧ y ≤ hi ∧ e = .returned (.int .i64 y) ∧ Only g w w' ∧ Rd (N + 1) w' g := by
  obtain ⟨l, h1, h2⟩ := list_of hc
  subst h1
  refine (one_any N g b l.length l w hN hk hk2 hr (by omega) (fun i hi => (h2 i hi).2.2)).mono ?_
  rintro e w1 ⟨y, hy, rfl, ho, hr⟩
  have hb := mem_of_all (q := fun y => lo ≤ y ∧ y ≤ hi) (fun i hi => ⟨(h2 i hi).1, (h2 i hi).2.1⟩) hy
  exact ⟨y, hb.1, hb.2, rfl, ho, hr⟩
end
end Go.Proofs.Ytfienpoebndfpaa
