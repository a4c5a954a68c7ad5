/- Slices of texts: laws.szStringS, laws.toStringS, laws.eqStringS. -/
import Derived.Test.YtgejiiaocgacmaaDoorNum
import Derived.Test.YtgejiiaocgacmaaDoorHeap
import Derived.Deep.OwnRows
import Derived.Deep.QuietTactic
import Derived.BigQuiet
namespace Go.Proofs.YtgejiiaocgacmaaDoor
open Go.ChangeShapes Go.WideShapes Go.ChangeAt Go.RowKit
set_option linter.unusedVariables false
/-- A slice of n texts, the i-th one f i. -/
def Txt (w : World) (a : Option Addr) (n : Nat) (f : Nat → ByteArray) : Prop :=
  (∀ i, i < n → (f i).size ≤ maxLen) ∧ (n = 0 ∨ ∃ b off, a = some ⟨b, off, none⟩ ∧ b < w.heap.size ∧ ∀ i, i < n → w.cell? ⟨b, off + i, none⟩ = some (.string (f i)))
theorem Txt.below {w w' : World} {a : Option Addr} {n : Nat} {f : Nat → ByteArray} (h : Txt w a n f) (hb : Below w.heap.size w w') : Txt w' a n f := by
  refine ⟨h.1, h.2.imp id ?_⟩
  rintro ⟨b, off, ha, hlt, hc⟩
  exact ⟨b, off, ha, Nat.lt_of_lt_of_le hlt hb.size, fun i hi => (hb.cell (p := ⟨b, off + i, none⟩) hlt).trans (hc i hi)⟩
theorem Txt.alloc {w : World} {a : Option Addr} {n : Nat} {f : Nat → ByteArray} (h : Txt w a n f) (o : Obj) : Txt (w.alloc o) a n f := h.below ((Below.refl _ _).alloc (Nat.le_refl _) _)
theorem Txt.set {w : World} {b g j n : Nat} {v : Value} {f : Nat → ByteArray} (h : Txt w (some ⟨b, 0, none⟩) n f) (hg : g ≠ b) : Txt (w.setCell ⟨g, j, none⟩ v) (some ⟨b, 0, none⟩) n f := by
  refine ⟨h.1, h.2.imp id ?_⟩
  rintro ⟨b', off, ha, hlt, hc⟩
  cases ha
  have hh : ∀ k, (w.setCell ⟨g, j, none⟩ v).cell? ⟨b, k, none⟩ = w.cell? ⟨b, k, none⟩ := fun k => World.cell?_of_block (w := w) (Below.heap_setCell w ⟨g, j, none⟩ v b (fun e => hg e.symm))
  exact ⟨b, 0, rfl, by simpa [World.setCell] using hlt, fun i hi => (hh _).trans (hc i hi)⟩
set_option maxHeartbeats 1000000 in
theorem szStringS_any (a : Option Addr) (n cap : Nat) (f : Nat → ByteArray) (w : World) (hn : n ≤ maxLen) (h : Txt w a n f) :
    Calls Tryd.prog 74 #[.slice a n cap, .int .i64 1048576] w fun e w' => ∃ r : Int, (0 ≤ r → n ≤ 1048576 ∧ ∀ i, i < n → (f i).size ≤ 1048576) ∧ e = .returned (.int .i64 r) ∧ w' = w := by
  unfold maxLen at hn
  by_cases hbig : (1048576 : Int) - n < 0
  · go_enter Tryd.func74, Tryd.ntmps74
    go_wp2
    go_ret
    exact ⟨-1, fun h => by omega, rfl, rfl⟩
  obtain ⟨hsz, h0 | ⟨b, off, rfl, hlt, hc⟩⟩ := h
  · subst h0
    go_enter Tryd.func74, Tryd.ntmps74
    go_wp2
    refine Go.wp_loop_rounds 1 ?_
    rw [Go.rounds_succ]
    go_wp2
    go_ret
    exact ⟨1048576, fun _ => ⟨by omega, fun i hi => by omega⟩, rfl, rfl⟩
  · have HS : Hid _ := hsz
    have HC : Hid _ := hc
    clear hsz hc
    go_enter Tryd.func74, Tryd.ntmps74
    go_wp2
    go_loop [1, 5] (fun v i => ∃ (k : Nat) (r : Int), k ≤ n ∧ 0 ≤ r ∧ r ≤ 1048576 ∧ Hid (∀ j, j < k → (f j).size ≤ 1048576) ∧ i = .int .i64 k ∧ v = .int .i64 r) (fun _ i => n - (intOf i).toNat)
    case atStart => exact ⟨0, 1048576 - n, by omega, by omega, by omega, fun j hj => by omega, rfl, rfl⟩
    case round =>
      obtain ⟨k, r, hk, hr0, hr1, hall, rfl, rfl⟩ := hrel
      by_cases hlt : k < n
      · have hck := HC.out k hlt
        have hsk := HS.out k hlt
        unfold maxLen at hsk
        by_cases hneg : r - (f k).size < 0
        · go_wp2
          go_ret
          exact ⟨-1, fun h => by omega, rfl, rfl⟩
        · go_wp2
          refine ⟨⟨k + 1, r - (f k).size, by omega, by omega, by omega, fun j hj => ?_, by go_num, rfl⟩, by simp [intOf]; omega⟩
          rcases Nat.lt_or_ge j k with e | e
          · exact hall.out j e
          · obtain rfl : j = k := by omega
            omega
      · go_wp2
        go_ret
        exact ⟨r, fun _ => ⟨by omega, fun i hi => hall.out i (by omega)⟩, rfl, rfl⟩
theorem infoStr : (Tryd.prog.info? 9).map (fun i => (i.zero, i.size, i.bytes)) = some (some (.string ⟨#[]⟩), 1, 16) := by kernel_rfl
theorem mkS0 (w : World) : (Instr.makeSlice 34 (.int .i64 0) (.int .i64 0)).run Tryd.prog w = .ok (.slice (some ⟨w.heap.size, 0, none⟩) 0 0) (w.alloc (.cells #[] 9)) := by kernel_rfl
/-- The first k texts of f, empty ones behind. -/
def firstK (f : Nat → ByteArray) (k : Nat) : Nat → Value := fun j => if j < k then .string (f j) else .string ⟨#[]⟩
set_option maxHeartbeats 1000000 in
theorem toStringSx_any (a : Option Addr) (n cap : Nat) (f : Nat → ByteArray) (w : World) (hn : n ≤ 1048576) (h : Txt w a n f) :
    Calls Tryd.prog 76 #[.slice a n cap] w fun e w' => e = .returned (.slice (some ⟨w.heap.size, 0, none⟩) n n) ∧ Txt w' (some ⟨w.heap.size, 0, none⟩) n f ∧ Below w.heap.size w w' ∧ w.heap.size < w'.heap.size ∧ ∀ q, w'.frozen? ⟨w.heap.size, q, none⟩ = false := by
  have hmk := run_make_row' (P := Tryd.prog) 34 9 (.string ⟨#[]⟩) 16 Tryd.underlying34 infoStr rfl .i64 .i64 n (by omega) (by omega)
  obtain ⟨hsz, h0 | ⟨b, off, rfl, hlt, hc⟩⟩ := h
  · subst h0
    clear hmk
    have hmk := mkS0
    go_enter Tryd.func76, Tryd.ntmps76
    go_wp2
    refine Go.wp_loop_rounds 1 ?_
    rw [Go.rounds_succ]
    go_wp2
    go_ret
    exact ⟨rfl, ⟨fun i hi => by omega, .inl rfl⟩, (Below.refl _ _).alloc (Nat.le_refl _) _, by simp, fun q => frozen_get (get_new rfl)⟩
  · have HS : Hid _ := hsz
    have HC : Hid _ := hc
    have hrow := World.rowIs_made w (.string ⟨#[]⟩) n 9
    have HR : Hid _ := hrow
    clear hsz hc hrow
    go_enter Tryd.func76, Tryd.ntmps76
    go_wp2
    go_loopw [4] (fun i wr => ∃ k : Nat, k ≤ n ∧ i = .int .i64 k ∧ wr.rowIs w.heap.size 9 n (firstK f k) ∧ Below w.heap.size w wr) (fun i _ => n - (intOf i).toNat)
    case atStart => exact ⟨0, by omega, rfl, World.rowIs.congr HR.out (fun j hj => by simp [firstK]), (Below.refl _ _).alloc (Nat.le_refl _) _⟩
    case round =>
      obtain ⟨k, hk, rfl, hrow, hB⟩ := hrel
      have HB : Hid _ := hB
      have HRW : Hid _ := hrow
      by_cases hlt' : k < n
      · have hck : wr.cell? ⟨b, off + k, none⟩ = some (.string (f k)) := (hB.cell (p := ⟨b, off + k, none⟩) hlt).trans (HC.out k hlt')
        obtain ⟨old, hod⟩ : ∃ old, wr.cell? ⟨w.heap.size, k, none⟩ = some (.string old) := by
          have := hrow.cell hlt'
          simp only [firstK, Nat.lt_irrefl, if_false] at this
          exact ⟨_, this⟩
        have hof : wr.frozen? ⟨w.heap.size, k, none⟩ = false := hrow.frozen _
        clear hrow hB
        go_wp2
        refine ⟨⟨k + 1, by omega, by go_num, ?_, belowS HB.out (Nat.le_refl _)⟩, by simp [intOf]; omega⟩
        refine World.rowIs.congr (World.rowIs.set HRW.out k (.string (f k))) fun j hj => ?_
        simp only [firstK]
        by_cases e : j = k
        · subst e; simp
        · have : (j < k + 1) = (j < k) := by simp; omega
          simp [e, this]
      · clear hrow hB
        obtain rfl : k = n := by omega
        go_wp2
        go_ret
        refine ⟨rfl, ⟨HS.out, .inr ⟨w.heap.size, 0, rfl, World.rowIs.lt HRW.out, fun i hi => ?_⟩⟩, HB.out, World.rowIs.lt HRW.out, fun q => World.rowIs.frozen HRW.out q⟩
        have := World.rowIs.cell HRW.out hi
        simp only [firstK, hi, if_true] at this
        rw [Nat.zero_add]; exact this
theorem toStringS_any (a : Option Addr) (n cap : Nat) (f : Nat → ByteArray) (w : World) (hn : n ≤ 1048576) (h : Txt w a n f) :
    Calls Tryd.prog 76 #[.slice a n cap] w fun e w' => e = .returned (.slice (some ⟨w.heap.size, 0, none⟩) n n) ∧ Txt w' (some ⟨w.heap.size, 0, none⟩) n f ∧ Below w.heap.size w w' :=
  (toStringSx_any a n cap f w hn h).mono fun e w' ⟨h1, h2, h3, _, _⟩ => ⟨h1, h2, h3⟩
theorem toStringS_ex (a : Option Addr) (n cap : Nat) (f : Nat → ByteArray) (w : World) (hn : n ≤ 1048576) (h : Txt w a n f) :
    Calls Tryd.prog 76 #[.slice a n cap] w fun e w' => ∃ b, w.heap.size ≤ b ∧ b < w'.heap.size ∧ e = .returned (.slice (some ⟨b, 0, none⟩) n n) ∧ Txt w' (some ⟨b, 0, none⟩) n f ∧ Below w.heap.size w w' :=
  (toStringSx_any a n cap f w hn h).mono fun e w' ⟨h1, h2, h3, h4, _⟩ => ⟨_, Nat.le_refl _, h4, h1, h2, h3⟩
theorem toStringS_exf (a : Option Addr) (n cap : Nat) (f : Nat → ByteArray) (w : World) (hn : n ≤ 1048576) (h : Txt w a n f) :
    Calls Tryd.prog 76 #[.slice a n cap] w fun e w' => ∃ b, w.heap.size ≤ b ∧ b < w'.heap.size ∧ e = .returned (.slice (some ⟨b, 0, none⟩) n n) ∧ Txt w' (some ⟨b, 0, none⟩) n f ∧ Below w.heap.size w w' ∧ ∀ q, w'.frozen? ⟨b, q, none⟩ = false :=
  (toStringSx_any a n cap f w hn h).mono fun e w' ⟨h1, h2, h3, h4, h5⟩ => ⟨_, Nat.le_refl _, h4, h1, h2, h3, h5⟩
set_option maxHeartbeats 1000000 in
theorem eqStringS_any (a a' : Option Addr) (n cap cap' : Nat) (f : Nat → ByteArray) (w : World) (hn : n ≤ maxLen) (h : Txt w a n f) (h' : Txt w a' n f) :
    Calls Tryd.prog 47 #[.slice a n cap, .slice a' n cap'] w fun e w' => e = .returned (.bool true) ∧ ∃ m, w' = w.drewN m := by
  unfold maxLen at hn
  obtain ⟨hsz, h0 | ⟨b, off, rfl, hlt, hc⟩⟩ := h
  · subst h0
    go_enter Tryd.func47, Tryd.ntmps47
    go_wp2
    refine Go.wp_loop_rounds 1 ?_
    rw [Go.rounds_succ]
    go_wp2
    go_ret
    exact ⟨rfl, 0, rfl⟩
  obtain ⟨_, h0 | ⟨b', off', rfl, hlt', hc'⟩⟩ := h'
  · subst h0
    go_enter Tryd.func47, Tryd.ntmps47
    go_wp2
    refine Go.wp_loop_rounds 1 ?_
    rw [Go.rounds_succ]
    go_wp2
    go_ret
    exact ⟨rfl, 0, rfl⟩
  have HC : Hid _ := hc
  have HC' : Hid _ := hc'
  clear hsz hc hc'
  go_enter Tryd.func47, Tryd.ntmps47
  go_wp2
  go_loopw [5] (fun i wr => ∃ k : Nat, k ≤ n ∧ i = .int .i64 k ∧ ∃ m, wr = w.drewN m) (fun i _ => n - (intOf i).toNat)
  case atStart => exact ⟨0, by omega, rfl, 0, rfl⟩
  case round =>
    obtain ⟨k, hk, rfl, m, rfl⟩ := hrel
    by_cases hlt2 : k < n
    · have hck : w.cell? ⟨b, off + k, none⟩ = some (.string (f k)) := HC.out k hlt2
      have hck' : w.cell? ⟨b', off' + k, none⟩ = some (.string (f k)) := HC'.out k hlt2
      have hik : (k : Int) < (n : Int) := by omega
      go_wp2
      go_quiet (fail)
      go_wp2
      exact ⟨⟨k + 1, by omega, by go_num, m + nq, rfl⟩, by simp [intOf]; omega⟩
    · go_wp2
      go_ret
      exact ⟨rfl, m, rfl⟩
end Go.Proofs.YtgejiiaocgacmaaDoor
