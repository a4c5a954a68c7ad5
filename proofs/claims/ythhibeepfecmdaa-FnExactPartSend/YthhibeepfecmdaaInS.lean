/- Slices of ints: laws.szIntS, laws.toIntS, laws.eqIntS. -/
import Derived.Test.YthhibeepfecmdaaNum
import Derived.Test.YthhibeepfecmdaaHeap
import Derived.Deep.OwnRows
import Derived.Deep.QuietTactic
import Derived.BigQuiet
namespace Go.Proofs.Ythhibeepfecmdaa
open Go.ChangeShapes Go.WideShapes Go.ChangeAt Go.RowKit
set_option linter.unusedVariables false
/-- A slice of n ints, the i-th one f i. -/
def IntS (w : World) (a : Option Addr) (n : Nat) (f : Nat → Int) : Prop :=
  n = 0 ∨ ∃ b off, a = some ⟨b, off, none⟩ ∧ b < w.heap.size ∧ ∀ i, i < n → w.cell? ⟨b, off + i, none⟩ = some (.int .i64 (f i))
theorem IntS.below {w w' : World} {a : Option Addr} {n : Nat} {f : Nat → Int} (h : IntS w a n f) (hb : Below w.heap.size w w') : IntS w' a n f := by
  refine h.imp id ?_
  rintro ⟨b, off, ha, hlt, hc⟩
  exact ⟨b, off, ha, Nat.lt_of_lt_of_le hlt hb.size, fun i hi => (hb.cell (p := ⟨b, off + i, none⟩) hlt).trans (hc i hi)⟩
theorem IntS.alloc {w : World} {a : Option Addr} {n : Nat} {f : Nat → Int} (h : IntS w a n f) (o : Obj) : IntS (w.alloc o) a n f := h.below ((Below.refl _ _).alloc (Nat.le_refl _) _)
theorem IntS.set {w : World} {b g j n : Nat} {v : Value} {f : Nat → Int} (h : IntS w (some ⟨b, 0, none⟩) n f) (hg : g ≠ b) : IntS (w.setCell ⟨g, j, none⟩ v) (some ⟨b, 0, none⟩) n f := by
  refine h.imp id ?_
  rintro ⟨b', off, ha, hlt, hc⟩
  cases ha
  have hh : ∀ k, (w.setCell ⟨g, j, none⟩ v).cell? ⟨b, k, none⟩ = w.cell? ⟨b, k, none⟩ := fun k => World.cell?_of_block (w := w) (Below.heap_setCell w ⟨g, j, none⟩ v b (fun e => hg e.symm))
  exact ⟨b, 0, rfl, by simpa [World.setCell] using hlt, fun i hi => (hh _).trans (hc i hi)⟩
set_option maxHeartbeats 1000000 in
theorem szIntS_any (a : Option Addr) (n cap : Nat) (l : Int) (w : World) (hn : n ≤ maxLen) (h0 : 0 ≤ l) (h1 : l ≤ 1048576) :
    Calls Try.prog 120 #[.slice a n cap, .int .i64 l] w fun e w' => ∃ r : Int, (0 ≤ r → n ≤ 1048576) ∧ r ≤ 1048576 ∧ e = .returned (.int .i64 r) ∧ w' = w := by
  unfold maxLen at hn
  by_cases hbig : (l : Int) - n < 0
  · go_enter Try.func120, Try.ntmps120
    go_wp2
    go_ret
    exact ⟨-1, fun h => by omega, by omega, rfl, rfl⟩
  · go_enter Try.func120, Try.ntmps120
    go_wp2
    go_ret
    exact ⟨l - n, fun _ => by omega, by omega, rfl, rfl⟩
theorem infoInt : (Try.prog.info? 3).map (fun i => (i.zero, i.size, i.bytes)) = some (some (.int .i64 0), 1, 8) := by kernel_rfl
theorem mkI0 (w : World) : (Instr.makeSlice 78 (.int .i64 0) (.int .i64 0)).run Try.prog w = .ok (.slice (some ⟨w.heap.size, 0, none⟩) 0 0) (w.alloc (.cells #[] 3)) := by kernel_rfl
/-- The first k ints of f, zeros behind. -/
def firstI (f : Nat → Int) (k : Nat) : Nat → Value := fun j => if j < k then .int .i64 (f j) else .int .i64 0
set_option maxHeartbeats 1000000 in
theorem toIntSx_any (a : Option Addr) (n cap : Nat) (f : Nat → Int) (w : World) (hn : n ≤ 1048576) (h : IntS w a n f) :
    Calls Try.prog 122 #[.slice a n cap] w fun e w' => e = .returned (.slice (some ⟨w.heap.size, 0, none⟩) n n) ∧ IntS w' (some ⟨w.heap.size, 0, none⟩) n f ∧ Below w.heap.size w w' ∧ w.heap.size < w'.heap.size ∧ ∀ q, w'.frozen? ⟨w.heap.size, q, none⟩ = false := by
  have hmk := run_make_row' (P := Try.prog) 78 3 (.int .i64 0) 8 Try.underlying78 infoInt rfl .i64 .i64 n (by omega) (by omega)
  obtain h0 | ⟨b, off, rfl, hlt, hc⟩ := h
  · subst h0
    clear hmk
    have hmk := mkI0
    go_enter Try.func122, Try.ntmps122
    go_wp2
    refine Go.wp_loop_rounds 1 ?_
    rw [Go.rounds_succ]
    go_wp2
    go_ret
    exact ⟨rfl, .inl rfl, (Below.refl _ _).alloc (Nat.le_refl _) _, by simp, fun q => frozen_get (get_new rfl)⟩
  · have HC : Hid _ := hc
    have hrow := World.rowIs_made w (.int .i64 0) n 3
    have HR : Hid _ := hrow
    clear hc hrow
    go_enter Try.func122, Try.ntmps122
    go_wp2
    go_loopw [4] (fun i wr => ∃ k : Nat, k ≤ n ∧ i = .int .i64 k ∧ wr.rowIs w.heap.size 3 n (firstI f k) ∧ Below w.heap.size w wr) (fun i _ => n - (intOf i).toNat)
    case atStart => exact ⟨0, by omega, rfl, World.rowIs.congr HR.out (fun j hj => by simp [firstI]), (Below.refl _ _).alloc (Nat.le_refl _) _⟩
    case round =>
      obtain ⟨k, hk, rfl, hrow, hB⟩ := hrel
      have HB : Hid _ := hB
      have HRW : Hid _ := hrow
      by_cases hlt' : k < n
      · have hck : wr.cell? ⟨b, off + k, none⟩ = some (.int .i64 (f k)) := (hB.cell (p := ⟨b, off + k, none⟩) hlt).trans (HC.out k hlt')
        obtain ⟨old, hod⟩ : ∃ old, wr.cell? ⟨w.heap.size, k, none⟩ = some (.int .i64 old) := by
          have := hrow.cell hlt'
          simp only [firstI, Nat.lt_irrefl, if_false] at this
          exact ⟨_, this⟩
        have hof : wr.frozen? ⟨w.heap.size, k, none⟩ = false := hrow.frozen _
        clear hrow hB
        go_wp2
        refine ⟨⟨k + 1, by omega, by go_num, ?_, belowS HB.out (Nat.le_refl _)⟩, by simp [intOf]; omega⟩
        refine World.rowIs.congr (World.rowIs.set HRW.out k (.int .i64 (f k))) fun j hj => ?_
        simp only [firstI]
        by_cases e : j = k
        · subst e; simp
        · have : (j < k + 1) = (j < k) := by simp; omega
          simp [e, this]
      · clear hrow hB
        obtain rfl : k = n := by omega
        go_wp2
        go_ret
        refine ⟨rfl, .inr ⟨w.heap.size, 0, rfl, World.rowIs.lt HRW.out, fun i hi => ?_⟩, HB.out, World.rowIs.lt HRW.out, fun q => World.rowIs.frozen HRW.out q⟩
        have := World.rowIs.cell HRW.out hi
        simp only [firstI, hi, if_true] at this
        rw [Nat.zero_add]; exact this
theorem toIntS_any (a : Option Addr) (n cap : Nat) (f : Nat → Int) (w : World) (hn : n ≤ 1048576) (h : IntS w a n f) :
    Calls Try.prog 122 #[.slice a n cap] w fun e w' => e = .returned (.slice (some ⟨w.heap.size, 0, none⟩) n n) ∧ IntS w' (some ⟨w.heap.size, 0, none⟩) n f ∧ Below w.heap.size w w' :=
  (toIntSx_any a n cap f w hn h).mono fun e w' ⟨h1, h2, h3, _, _⟩ => ⟨h1, h2, h3⟩
theorem toIntS_ex (a : Option Addr) (n cap : Nat) (f : Nat → Int) (w : World) (hn : n ≤ 1048576) (h : IntS w a n f) :
    Calls Try.prog 122 #[.slice a n cap] w fun e w' => ∃ b, w.heap.size ≤ b ∧ b < w'.heap.size ∧ e = .returned (.slice (some ⟨b, 0, none⟩) n n) ∧ IntS w' (some ⟨b, 0, none⟩) n f ∧ Below w.heap.size w w' :=
  (toIntSx_any a n cap f w hn h).mono fun e w' ⟨h1, h2, h3, h4, _⟩ => ⟨_, Nat.le_refl _, h4, h1, h2, h3⟩
theorem toIntS_exf (a : Option Addr) (n cap : Nat) (f : Nat → Int) (w : World) (hn : n ≤ 1048576) (h : IntS w a n f) :
    Calls Try.prog 122 #[.slice a n cap] w fun e w' => ∃ b, w.heap.size ≤ b ∧ b < w'.heap.size ∧ e = .returned (.slice (some ⟨b, 0, none⟩) n n) ∧ IntS w' (some ⟨b, 0, none⟩) n f ∧ Below w.heap.size w w' ∧ ∀ q, w'.frozen? ⟨b, q, none⟩ = false :=
  (toIntSx_any a n cap f w hn h).mono fun e w' ⟨h1, h2, h3, h4, h5⟩ => ⟨_, Nat.le_refl _, h4, h1, h2, h3, h5⟩
set_option maxHeartbeats 1000000 in
theorem eqIntS_any (a a' : Option Addr) (n cap cap' : Nat) (f : Nat → Int) (w : World) (hn : n ≤ maxLen) (h : IntS w a n f) (h' : IntS w a' n f) :
    Calls Try.prog 124 #[.slice a n cap, .slice a' n cap'] w fun e w' => e = .returned (.bool true) ∧ ∃ m, w' = w.drewN m := by
  unfold maxLen at hn
  obtain h0 | ⟨b, off, rfl, hlt, hc⟩ := h
  · subst h0
    go_enter Try.func124, Try.ntmps124
    go_wp2
    refine Go.wp_loop_rounds 1 ?_
    rw [Go.rounds_succ]
    go_wp2
    go_ret
    exact ⟨rfl, 0, rfl⟩
  obtain h0 | ⟨b', off', rfl, hlt', hc'⟩ := h'
  · subst h0
    go_enter Try.func124, Try.ntmps124
    go_wp2
    refine Go.wp_loop_rounds 1 ?_
    rw [Go.rounds_succ]
    go_wp2
    go_ret
    exact ⟨rfl, 0, rfl⟩
  have HC : Hid _ := hc
  have HC' : Hid _ := hc'
  clear hc hc'
  go_enter Try.func124, Try.ntmps124
  go_wp2
  go_loopw [5] (fun i wr => ∃ k : Nat, k ≤ n ∧ i = .int .i64 k ∧ ∃ m, wr = w.drewN m) (fun i _ => n - (intOf i).toNat)
  case atStart => exact ⟨0, by omega, rfl, 0, rfl⟩
  case round =>
    obtain ⟨k, hk, rfl, m, rfl⟩ := hrel
    by_cases hlt2 : k < n
    · have hck : w.cell? ⟨b, off + k, none⟩ = some (.int .i64 (f k)) := HC.out k hlt2
      have hck' : w.cell? ⟨b', off' + k, none⟩ = some (.int .i64 (f k)) := HC'.out k hlt2
      have hik : (k : Int) < (n : Int) := by omega
      go_wp2
      go_quiet (fail)
      go_wp2
      exact ⟨⟨k + 1, by omega, by go_num, m + nq, rfl⟩, by simp [intOf]; omega⟩
    · go_wp2
      go_ret
      exact ⟨rfl, m, rfl⟩
end Go.Proofs.Ythhibeepfecmdaa
