/- The reader of drawn bytes: the contracts of spec.l1Open and of its method pick. -/
import Derived.Test.YtfienpoebndfpaaNumG
import Derived.Test.YtfienpoebndfpaaFrame
import Derived.Deep.QuietTactic
import Derived.BigQuiet
namespace Go.Proofs.Ytfienpoebndfpaa
open Go.ChangeShapes Go.WideShapes Go.ChangeAt Go.RowKit
set_option linter.unusedVariables false

/-- Of the blocks that were there only block g may have turned. -/
structure Only (g : Nat) (w w' : World) : Prop where
  os : w'.os = w.os
  tape : w'.tape = w.tape
  output : w'.output = w.output
  size : w.heap.size ≤ w'.heap.size
  block : ∀ k, k < w.heap.size → k ≠ g → w'.heap[k]? = w.heap[k]?
theorem Only.refl (g : Nat) (w : World) : Only g w w := ⟨rfl, rfl, rfl, Nat.le_refl _, fun _ _ _ => rfl⟩
theorem Only.trans {g : Nat} {a b c : World} (h : Only g a b) (k : Only g b c) : Only g a c :=
  ⟨k.os.trans h.os, k.tape.trans h.tape, k.output.trans h.output, Nat.le_trans h.size k.size, fun i hi hg => (k.block i (Nat.lt_of_lt_of_le hi h.size) hg).trans (h.block i hi hg)⟩
theorem Only.of_below {g : Nat} {w w' : World} (h : Below w.heap.size w w') : Only g w w' := ⟨h.os, h.tape, h.output, h.size, fun k hk _ => h.block k hk⟩
theorem Only.below {g : Nat} {w w' : World} (h : Only g w w') {B : Nat} (hB : B ≤ g) (hs : B ≤ w.heap.size) : Below B w w' :=
  ⟨h.os, h.tape, h.output, h.size, fun k hk => h.block k (by omega) (by omega)⟩
theorem Only.cell {g : Nat} {w w' : World} (h : Only g w w') {p : Addr} (hp : p.block < w.heap.size) (hg : p.block ≠ g) : w'.cell? p = w.cell? p := World.cell?_of_block (w := w) (h.block p.block hp hg)
theorem Only.frozen {g : Nat} {w w' : World} (h : Only g w w') {p : Addr} (hp : p.block < w.heap.size) (hg : p.block ≠ g) : w'.frozen? p = w.frozen? p := World.frozen?_of_block (w := w) (h.block p.block hp hg)
theorem Only.setCell {g : Nat} {a w : World} (h : Only g a w) (j : Nat) (u : Value) : Only g a (w.setCell ⟨g, j, none⟩ u) :=
  h.trans ⟨rfl, rfl, rfl, by simp [World.setCell], fun k hk hg => Below.heap_setCell _ _ _ _ hg⟩
theorem Only.drewN {g : Nat} {a w : World} (h : Only g a w) (n : Nat) : Only g a (w.drewN n) := ⟨h.os, h.tape, h.output, h.size, h.block⟩
theorem Only.drew {g : Nat} {a w : World} (h : Only g a w) : Only g a w.drew := ⟨h.os, h.tape, h.output, h.size, h.block⟩
theorem Only.alloc {g : Nat} {a w : World} (h : Only g a w) (o : Obj) : Only g a (w.alloc o) :=
  h.trans ⟨rfl, rfl, rfl, by simp, fun k hk _ => Below.heap_alloc _ _ _ hk⟩

/-- The reader at block g stands within N bytes read. -/
def Rd (N : Nat) (w : World) (g : Nat) : Prop := ∃ (p : Nat) (av : Option Addr) (len cap : Nat), p ≤ N ∧ len ≤ 2000 ∧
  w.cell? ⟨g, 0, none⟩ = some (.slice av len cap) ∧ w.cell? ⟨g, 1, none⟩ = some (.int .i64 p) ∧ w.frozen? ⟨g, 1, none⟩ = false ∧
  (len = 0 ∨ ∃ b off, av = some ⟨b, off, none⟩ ∧ b < g ∧ ∀ i, i < len → ∃ z : Nat, z < 256 ∧ w.cell? ⟨b, off + i, none⟩ = some (.int .u8 (z : Int)))
theorem Rd.mono {N M : Nat} {w : World} {g : Nat} (h : Rd N w g) (hNM : N ≤ M) : Rd M w g := by
  obtain ⟨p, av, len, cap, hp, r⟩ := h
  exact ⟨p, av, len, cap, by omega, r⟩
theorem Rd.lt {N : Nat} {w : World} {g : Nat} (h : Rd N w g) : g < w.heap.size := by
  obtain ⟨p, av, len, cap, hp, hl, h0, h1, r⟩ := h
  exact block_lt_of_cell h0
/-- What leaves all blocks up to the reader's leaves the reader. -/
theorem Rd.keep {N : Nat} {w w' : World} {g : Nat} (h : Rd N w g) (hk : ∀ k, k ≤ g → w'.heap[k]? = w.heap[k]?) : Rd N w' g := by
  obtain ⟨p, av, len, cap, hp, hl, h0, h1, hf, hz⟩ := h
  have hc : ∀ b o, b ≤ g → w'.cell? ⟨b, o, none⟩ = w.cell? ⟨b, o, none⟩ := fun b o hb => World.cell?_of_block (w := w) (hk b hb)
  have hfz : w'.frozen? ⟨g, 1, none⟩ = w.frozen? ⟨g, 1, none⟩ := World.frozen?_of_block (w := w) (hk g (Nat.le_refl _))
  refine ⟨p, av, len, cap, hp, hl, by rw [hc _ _ (Nat.le_refl _)]; exact h0, by rw [hc _ _ (Nat.le_refl _)]; exact h1, by rw [hfz]; exact hf, ?_⟩
  rcases hz with hz | ⟨b, off, ha, hbg, hz⟩
  · exact .inl hz
  · refine .inr ⟨b, off, ha, hbg, fun i hi => ?_⟩
    obtain ⟨z, hz1, hz2⟩ := hz i hi
    exact ⟨z, hz1, by rw [hc _ _ (by omega)]; exact hz2⟩
theorem Rd.below {N : Nat} {w w' : World} {g : Nat} (h : Rd N w g) (hb : Below w.heap.size w w') : Rd N w' g :=
  have hg := h.lt
  h.keep fun k hk => hb.block k (by omega)
theorem far {b g o j : Nat} (h : b ≠ g) : (⟨g, j, none⟩ : Addr) ≠ ⟨b, o, none⟩ := fun e => h (by injection e with e1; exact e1.symm)
theorem Rd.step {N p len cap g : Nat} {av : Option Addr} {w : World} (hp : p ≤ N) (hl : len ≤ 2000) (h0 : w.cell? ⟨g, 0, none⟩ = some (.slice av len cap)) (h1 : w.cell? ⟨g, 1, none⟩ = some (.int .i64 p)) (hf : w.frozen? ⟨g, 1, none⟩ = false)
    (hz : len = 0 ∨ ∃ b off, av = some ⟨b, off, none⟩ ∧ b < g ∧ ∀ i, i < len → ∃ z : Nat, z < 256 ∧ w.cell? ⟨b, off + i, none⟩ = some (.int .u8 (z : Int))) (n : Nat) :
    Rd (N + 1) ((w.setCell ⟨g, 1, none⟩ (.int .i64 ((p : Int) + 1))).drewN n) g := by
  refine ⟨p + 1, av, len, cap, by omega, hl, ?_, ?_, ?_, ?_⟩
  · rw [World.cell?_drewN, World.cell?_setCell_other _ _ _ _ (by simp)]; exact h0
  · rw [World.cell?_drewN, World.cell?_setCell_same _ _ _ h1]; simp
  · rw [World.frozen?_drewN, World.frozen?_setCell]; exact hf
  · rcases hz with hz | ⟨b, off, ha, hbg, hz⟩
    · exact .inl hz
    · refine .inr ⟨b, off, ha, hbg, fun i hi => ?_⟩
      obtain ⟨z, hz1, hz2⟩ := hz i hi
      exact ⟨z, hz1, by rw [World.cell?_drewN, World.cell?_setCell_other _ _ _ _ (far (Nat.ne_of_lt hbg))]; exact hz2⟩

set_option maxHeartbeats 400000 in
theorem pick_nil (N n g p cap : Nat) (av : Option Addr) (w : World) (hN : N ≤ 1073741824) (hn1 : 1 ≤ n) (hn2 : n ≤ 1073741824) (hp : p ≤ N)
    (h0 : w.cell? ⟨g, 0, none⟩ = some (.slice av 0 cap)) (h1 : w.cell? ⟨g, 1, none⟩ = some (.int .i64 p)) (hf : w.frozen? ⟨g, 1, none⟩ = false) :
    Calls Try.prog 66 #[.pointer (some ⟨g, 0, none⟩), .int .i64 (n : Nat)] w fun e w' => e = .returned (.int .i64 0) ∧ w' = w.setCell ⟨g, 1, none⟩ (.int .i64 ((p : Int) + 1)) := by
  go_enter Try.func66, Try.ntmps66
  go_wp2
  go_ret
  exact ⟨rfl, rfl⟩
set_option maxHeartbeats 400000 in
theorem pick_in (N n g p len cap b off z : Nat) (w : World) (hN : N ≤ 1073741824) (hn1 : 1 ≤ n) (hn2 : n ≤ 1073741824) (hp : p ≤ N) (hl : len ≤ 2000) (hpl : p < len) (hz : z < 256) (hbg : b ≠ g)
    (h0 : w.cell? ⟨g, 0, none⟩ = some (.slice (some ⟨b, off, none⟩) len cap)) (h1 : w.cell? ⟨g, 1, none⟩ = some (.int .i64 p)) (hf : w.frozen? ⟨g, 1, none⟩ = false)
    (h2 : w.cell? ⟨b, off + p, none⟩ = some (.int .u8 (z : Int))) :
    Calls Try.prog 66 #[.pointer (some ⟨g, 0, none⟩), .int .i64 (n : Nat)] w fun e w' => e = .returned (.int .i64 ((z % n : Nat) : Int)) ∧ w' = w.setCell ⟨g, 1, none⟩ (.int .i64 ((p : Int) + 1)) := by
  have hne : ((len : Int) == 0) = false := by rw [beq_eq_false_iff_ne]; omega
  have hq : (w.setCell ⟨g, 1, none⟩ (.int .i64 ((p : Int) + 1))).cell? ⟨b, off + p, none⟩ = some (.int .u8 (z : Int)) := by
    rw [World.cell?_setCell_other _ _ _ _ (far hbg)]; exact h2
  have hw : wrap64 (z : Int) = z := w64 (by omega) (by omega)
  go_enter Try.func66, Try.ntmps66
  go_wp2
  go_ret
  exact ⟨ret_int (by simp), rfl⟩
end Go.Proofs.Ytfienpoebndfpaa
