/- The contracts of the reader's one and of, and of spec.l15Farm, spec.l15AnyFarm. -/
import Derived.Test.YtfienpoebndfpaaDrawT
import Derived.Test.YtfienpoebndfpaaKeep
import Derived.Test.YtfienpoebndfpaaFa
import Derived.Deep.RegionHeld2
import Derived.Deep.DeepCutAuto
namespace Go.Proofs.Ytfienpoebndfpaa
open Go.ChangeShapes Go.WideShapes Go.ChangeAt Go.RowKit
set_option linter.unusedVariables false

theorem onlyc {g n : Nat} {w W0 W : World} (h : Hid (Only g W0 W)) (hg : g < w.heap.size) (hs : W0.heap.size = w.heap.size + n) :
    (∀ b o, w.heap.size ≤ b → b < w.heap.size + n → W.cell? ⟨b, o, none⟩ = W0.cell? ⟨b, o, none⟩) ∧ (∀ b o, w.heap.size ≤ b → b < w.heap.size + n → W.frozen? ⟨b, o, none⟩ = W0.frozen? ⟨b, o, none⟩) :=
  ⟨fun b o h1 h2 => h.out.cell (p := ⟨b, o, none⟩) (by simp; omega) (by simp; omega), fun b o h1 h2 => h.out.frozen (p := ⟨b, o, none⟩) (by simp; omega) (by simp; omega)⟩
theorem onlyT {g : Nat} {W0 W W' : World} (h : Hid (Only g W0 W)) (k : Only g W W') : Hid (Only g W0 W') := h.out.trans k
theorem onlyTd {g : Nat} {W0 W W' : World} (h : Hid (Only g W0 W)) (k : Only g W.drew W') : Hid (Only g W0 W') := h.out.drew.trans k
theorem get_only {g b : Nat} {W0 W : World} {o : Obj} (h : Only g W0 W) (k : W0.heap[b]? = some o) (e : b ≠ g) : W.heap[b]? = some o := (h.block b (size_of_get k) e).trans k
theorem arr_cells {w w' : World} {g v : Nat} {T : TypeId} (l : List Int) (lo hi : Int) (hl : ∀ x ∈ l, lo ≤ x ∧ x ≤ hi) (hv : v < l.length) (ho : Only g (w.alloc (.cells (l.map (Value.int .i64 ·)).toArray T)) w') (hg : g < w.heap.size) :
    ∃ y : Int, lo ≤ y ∧ y ≤ hi ∧ w'.cell? ⟨w.heap.size, v, none⟩ = some (.int .i64 y) := by
  refine ⟨l[v], (hl _ (List.getElem_mem hv)).1, (hl _ (List.getElem_mem hv)).2, ?_⟩
  rw [ho.cell (p := ⟨w.heap.size, v, none⟩) (by simp) (by simp; omega), World.cell?_alloc_mark]
  simp [hv]
theorem onlyS {g b j : Nat} {c : Value} {w W : World} (h : Only g w W) (hb : w.heap.size ≤ b) : Only g w (W.setCell ⟨b, j, none⟩ c) :=
  ⟨h.os, h.tape, h.output, by simpa [World.setCell] using h.size, fun k hk hn => (Below.heap_setCell _ _ _ _ (by simp; omega)).trans (h.block k hk hn)⟩
theorem rdS {N g b j : Nat} {c : Value} {W : World} (h : Rd N W g) (hb : g < b) : Rd N (W.setCell ⟨b, j, none⟩ c) g := h.keep fun k hk => Below.heap_setCell _ _ _ _ (by simp; omega)
theorem get_allocS {w : World} {g : Nat} {x o : Obj} (h : w.heap[g]? = some o) : (w.alloc x).heap[g]? = some o := get_alloc h (size_of_get h)
theorem rdA {N g : Nat} {o : Obj} {W : World} (h : Rd N W g) : Rd N (W.alloc o) g := h.below ((Below.refl _ _).alloc (Nat.le_refl _) _)
/-- The list at block b. -/
def Ints (w : World) (b : Nat) (l : List Int) : Prop := ∀ i, (h : i < l.length) → w.cell? ⟨b, i, none⟩ = some (.int .i64 l[i])
def Strs (w : World) (b : Nat) (l : List ByteArray) : Prop := ∀ i, (h : i < l.length) → w.cell? ⟨b, i, none⟩ = some (.string l[i])
theorem Ints.new {w : World} {T : TypeId} (l : List Int) : Ints (w.alloc (.cells (l.map (Value.int .i64 ·)).toArray T)) w.heap.size l := fun i h => by
  rw [World.cell?_alloc_mark]; simp [h]
theorem Strs.new {w : World} {T : TypeId} (l : List ByteArray) : Strs (w.alloc (.cells (l.map (Value.string ·)).toArray T)) w.heap.size l := fun i h => by
  rw [World.cell?_alloc_mark]; simp [h]
set_option maxHeartbeats 400000 in
theorem one_any (N g b cap : Nat) (l : List Int) (w : World) (hN : N ≤ 536870912) (hl : 1 ≤ l.length) (hl2 : l.length ≤ 1000) (hr : Rd N w g) (hb : b ≠ g) (hi : Ints w b l) :
    Calls Try.prog 71 #[.pointer (some ⟨g, 0, none⟩), .slice (some ⟨b, 0, none⟩) l.length cap] w fun e w' => ∃ y ∈ l, e = .returned (.int .i64 y) ∧ Only g w w' ∧ Rd (N + 1) w' g := by
  have HR : Hid _ := hr
  have HI : Hid _ := hi
  have hlt : b < w.heap.size := block_lt_of_cell (hi 0 hl)
  clear hr hi
  go_enter Try.func71, Try.ntmps71
  go_wp2_with fail
  refine (pickI N g _ _ (by omega) (by omega) (by omega) HR.out).mono ?_
  rintro e w1 ⟨v, hv, rfl, ho, hr1⟩
  have hv' : v < l.length := by omega
  have hcell : w1.cell? ⟨b, v, none⟩ = some (.int .i64 l[v]) := (ho.cell (p := ⟨b, v, none⟩) hlt hb).trans (HI.out v hv')
  have HO : Hid _ := ho
  have HR1 : Hid _ := hr1
  have HM : Hid (l[v] ∈ l) := List.getElem_mem hv'
  generalize l[v] = y at *
  clear ho hr1
  go_wp2_with fail
  go_ret
  exact ⟨y, HM.out, rfl, HO.out, HR1.out⟩
end Go.Proofs.Ytfienpoebndfpaa
