/- Slices of laws.Op and impl.Op. -/
import Derived.Test.YthhibeepfecmdaaNum
import Derived.Test.YthhibeepfecmdaaHeap
import Derived.Test.YthhibeepfecmdaaKeep
import Derived.Test.YthhibeepfecmdaaCellsN
import Derived.Deep.OwnRows
import Derived.Laws.MakeOwn
import Derived.Deep.RegionHeld2
namespace Go.Proofs.Ythhibeepfecmdaa
open Go.ChangeShapes Go.WideShapes Go.ChangeAt Go.RowKit
set_option linter.unusedVariables false

theorem cellsOp : (Try.prog.info? 155).map (·.size) = some 3 := by kernel_rfl
def OpS (w : World) (a : Option Addr) (n : Nat) (f0 : Nat → Int) (f1 : Nat → Int) (f2 : Nat → Int) : Prop := n = 0 ∨ ∃ b off, a = some ⟨b, off, none⟩ ∧ b < w.heap.size ∧ ∀ i, i < n → w.cell? ⟨b, off + i * 3, none⟩ = some (.int .i64 (f0 i)) ∧ w.cell? ⟨b, off + i * 3 + 1, none⟩ = some (.int .i64 (f1 i)) ∧ w.cell? ⟨b, off + i * 3 + 2, none⟩ = some (.int .i64 (f2 i))
theorem OpS.below {w w' : World} {a : Option Addr} {n : Nat} {f0 : Nat → Int} {f1 : Nat → Int} {f2 : Nat → Int} (h : OpS w a n f0 f1 f2) (hb : Below w.heap.size w w') : OpS w' a n f0 f1 f2 := by
  refine h.imp id ?_
  rintro ⟨b, off, ha, hlt, hc⟩
  refine ⟨b, off, ha, Nat.lt_of_lt_of_le hlt hb.size, fun i hi => ?_⟩
  have hh : ∀ q, w'.cell? ⟨b, q, none⟩ = w.cell? ⟨b, q, none⟩ := fun q => hb.cell (p := ⟨b, q, none⟩) hlt
  simp only [hh]
  exact hc i hi
theorem OpS.alloc {w : World} {a : Option Addr} {n : Nat} {f0 : Nat → Int} {f1 : Nat → Int} {f2 : Nat → Int} (h : OpS w a n f0 f1 f2) (o : Obj) : OpS (w.alloc o) a n f0 f1 f2 := h.below ((Below.refl _ _).alloc (Nat.le_refl _) _)
theorem OpS.set {w : World} {b g j n : Nat} {v : Value} {f0 : Nat → Int} {f1 : Nat → Int} {f2 : Nat → Int} (h : OpS w (some ⟨b, 0, none⟩) n f0 f1 f2) (hg : g ≠ b) : OpS (w.setCell ⟨g, j, none⟩ v) (some ⟨b, 0, none⟩) n f0 f1 f2 := by
  refine h.imp id ?_
  rintro ⟨b', off, ha, hlt, hc⟩
  cases ha
  have hh : ∀ k, (w.setCell ⟨g, j, none⟩ v).cell? ⟨b, k, none⟩ = w.cell? ⟨b, k, none⟩ := fun k => World.cell?_of_block (w := w) (Below.heap_setCell w ⟨g, j, none⟩ v b (fun e => hg e.symm))
  refine ⟨b, 0, rfl, by simpa [World.setCell] using hlt, fun i hi => ?_⟩
  simp only [hh]
  exact hc i hi
theorem mid_op (w : World) (A B C : Obj) : (((w.alloc A).alloc B).alloc C).heap[w.heap.size + 1]? = some B := get_alloc (get_new (by simp)) (by simp)
set_option maxHeartbeats 1000000 in
theorem toOp_any (v0 : Int) (v1 : Int) (v2 : Int) (w : World) :
    Calls Try.prog 117 #[.agg #[.int .i64 v0, .int .i64 v1, .int .i64 v2]] w fun e w' => e = .returned (.agg #[.int .i64 v0, .int .i64 v1, .int .i64 v2]) ∧ Below w.heap.size w w' := by
  go_enter Try.func117, Try.ntmps117
  go_wp2
  refine bodyPost_ret (v := .agg #[.int .i64 v0, .int .i64 v1, .int .i64 v2]) (results_cell_row Try.results117 _ _ (w.heap.size + 1) 155 #[.int .i64 v0, .int .i64 v1, .int .i64 v2] (0, 0) _ rfl (mid_op w _ _ _) Try.underlying155 rfl cellsOp) rfl ⟨rfl, ?_⟩
  exact (((Below.refl _ _).alloc (Nat.le_refl _) _).alloc (by simp) _).alloc (by simp; omega) _
set_option maxHeartbeats 1000000 in
theorem eqOp_any (v0 : Int) (v1 : Int) (v2 : Int) (w : World) :
    Calls Try.prog 119 #[.agg #[.int .i64 v0, .int .i64 v1, .int .i64 v2], .agg #[.int .i64 v0, .int .i64 v1, .int .i64 v2]] w fun e w' => e = .returned (.bool true) ∧ Below w.heap.size w w' := by
  have HB : Hid (∀ o o', Below w.heap.size w ((w.alloc o).alloc o')) := fun o o' => ((Below.refl _ _).alloc (Nat.le_refl _) o).alloc (by simp) o'
  go_enter Try.func119, Try.ntmps119
  go_wp2
  go_ret
  exact ⟨rfl, HB.out _ _⟩
set_option maxHeartbeats 1000000 in
theorem szOpSl_any (a : Option Addr) (n cap : Nat) (l : Int) (w : World) (hn : n ≤ maxLen) (h0 : 0 ≤ l) (h1 : l ≤ 1048576) :
    Calls Try.prog 48 #[.slice a n cap, .int .i64 l] w fun e w' => ∃ r : Int, (0 ≤ r → n ≤ 1048576) ∧ r ≤ 1048576 ∧ e = .returned (.int .i64 r) ∧ w' = w := by
  unfold maxLen at hn
  by_cases hbig : l - n < 0
  · go_enter Try.func48, Try.ntmps48
    go_wp2
    go_ret
    exact ⟨-1, fun h => by omega, by omega, rfl, rfl⟩
  · go_enter Try.func48, Try.ntmps48
    go_wp2
    go_ret
    exact ⟨l - n, fun _ => by omega, by omega, rfl, rfl⟩
theorem szOpS_any (a : Option Addr) (n cap : Nat) (w : World) (hn : n ≤ maxLen) :
    Calls Try.prog 48 #[.slice a n cap, .int .i64 1048576] w fun e w' => ∃ r : Int, (0 ≤ r → n ≤ 1048576) ∧ e = .returned (.int .i64 r) ∧ w' = w :=
  (szOpSl_any a n cap 1048576 w hn (by omega) (by omega)).mono fun e w' ⟨r, h1, _, h3, h4⟩ => ⟨r, h1, h3, h4⟩
theorem infoOp : (Try.prog.info? 155).map (fun i => (i.zero, i.size)) = some (some (.agg #[.int .i64 0, .int .i64 0, .int .i64 0]), 3) := by kernel_rfl
theorem bytesOp : (Try.prog.info? 155).map (fun i => decide (i.bytes ≤ 256)) = some true := by kernel_rfl
theorem mkOpS (n : Nat) (hn : n ≤ 1048576) (w : World) : (Instr.makeSlice 74 (.int .i64 (n : Int)) (.int .i64 (n : Int))).run Try.prog w = .ok (.slice (some ⟨w.heap.size, 0, none⟩) n n) (w.alloc (.cells (madeCells #[.int .i64 0, .int .i64 0, .int .i64 0] (n * 3)) 155)) := by
  obtain ⟨i, hi, hz⟩ := Option.map_eq_some_iff.1 infoOp
  obtain ⟨i', hi', hb⟩ := Option.map_eq_some_iff.1 bytesOp
  rw [hi] at hi'
  cases hi'
  simp only [Prod.mk.injEq] at hz
  have hb2 : i.bytes ≤ 256 := by simpa using hb
  have hm : (i.bytes : Int) * (n : Int) ≤ 256 * 1048576 := Int.mul_le_mul (by omega) (by omega) (by omega) (by omega)
  have := run_make (P := Try.prog) w 74 155 i (.agg #[.int .i64 0, .int .i64 0, .int .i64 0]) Try.underlying74 hi hz.1 .i64 .i64 n n (by omega) (by omega) (by omega) (by omega)
  rw [hz.2] at this
  simpa [Value.cells] using this
/-- The first k of them, zeros behind. -/
def firstOp (f0 : Nat → Int) (f1 : Nat → Int) (f2 : Nat → Int) (k : Nat) : Nat → Value := fun q => match q % 3 with | 0 => if q / 3 < k then .int .i64 (f0 (q / 3)) else .int .i64 0 | 1 => if q / 3 < k then .int .i64 (f1 (q / 3)) else .int .i64 0 | _ => if q / 3 < k then .int .i64 (f2 (q / 3)) else .int .i64 0
theorem madeOp_at (f0 : Nat → Int) (f1 : Nat → Int) (f2 : Nat → Int) {m q : Nat} (hq : q < m) : (madeCells #[.int .i64 0, .int .i64 0, .int .i64 0] m)[q]? = some (firstOp f0 f1 f2 0 q) := by
  have h1 : (madeCells #[.int .i64 0, .int .i64 0, .int .i64 0] m)[q]? = some (#[.int .i64 0, .int .i64 0, .int .i64 0][q % 3]!) := by simp [madeCells, hq]
  rw [h1]
  unfold firstOp
  obtain ⟨r, hr⟩ : ∃ r, r = q % 3 := ⟨_, rfl⟩
  have hlt : r < 3 := by omega
  rw [← hr]
  have hc : r = 0 ∨ r = 1 ∨ r = 2 := by omega
  rcases hc with rfl | rfl | rfl <;> simp
theorem firstOp_step (f0 : Nat → Int) (f1 : Nat → Int) (f2 : Nat → Int) (k q : Nat) : (if q = k * 3 + 2 then .int .i64 (f2 k) else (if q = k * 3 + 1 then .int .i64 (f1 k) else (if q = k * 3 then .int .i64 (f0 k) else firstOp f0 f1 f2 k q))) = firstOp f0 f1 f2 (k + 1) q := by
  obtain ⟨d, r, hr, rfl⟩ : ∃ d r, r < 3 ∧ q = d * 3 + r := ⟨q / 3, q % 3, Nat.mod_lt _ (by omega), by omega⟩
  have e1 : (d * 3 + r) / 3 = d := by omega
  have e2 : (d * 3 + r) % 3 = r := by omega
  unfold firstOp
  rw [e1, e2]
  by_cases hd : d = k
  · subst hd
    have hc : r = 0 ∨ r = 1 ∨ r = 2 := by omega
    rcases hc with rfl | rfl | rfl <;> simp
  · have n0 : ¬ d * 3 + r = k * 3 := by omega
    have n1 : ¬ d * 3 + r = k * 3 + 1 := by omega
    have n2 : ¬ d * 3 + r = k * 3 + 2 := by omega
    have hlt : (d < k + 1) = (d < k) := by simp; omega
    rw [if_neg n2, if_neg n1, if_neg n0]
    simp only [hlt]
set_option maxRecDepth 100000 in
set_option maxHeartbeats 2000000 in
theorem toOpSx_any (a : Option Addr) (n cap : Nat) (f0 : Nat → Int) (f1 : Nat → Int) (f2 : Nat → Int) (w : World) (hn : n ≤ 1048576) (h : OpS w a n f0 f1 f2) :
    Calls Try.prog 50 #[.slice a n cap] w fun e w' => e = .returned (.slice (some ⟨w.heap.size, 0, none⟩) n n) ∧ OpS w' (some ⟨w.heap.size, 0, none⟩) n f0 f1 f2 ∧ Below w.heap.size w w' ∧ w.heap.size < w'.heap.size ∧ ∀ q, w'.frozen? ⟨w.heap.size, q, none⟩ = false := by
  have hmk := mkOpS n hn
  rcases h with h0 | ⟨b, off, rfl, hlt, hc⟩
  · subst h0
    simp only [Int.natCast_zero] at hmk
    go_enter Try.func50, Try.ntmps50
    go_wp2
    refine Go.wp_loop_rounds 1 ?_
    rw [Go.rounds_succ]
    go_wp2
    go_ret
    exact ⟨rfl, .inl rfl, (Below.refl _ _).alloc (Nat.le_refl _) _, by simp, fun q => frozen_get (get_new rfl)⟩
  have HC : Hid _ := hc
  have hrow : (w.alloc (.cells (madeCells #[.int .i64 0, .int .i64 0, .int .i64 0] (n * 3)) 155)).rowIs w.heap.size 155 (n * 3) (firstOp f0 f1 f2 0) := by
    refine ⟨_, get_new rfl, size_madeCells _ _, fun q hq => ?_⟩
    exact madeOp_at f0 f1 f2 hq
  have HR : Hid _ := hrow
  clear hc hrow
  go_enter Try.func50, Try.ntmps50
  go_wp2_with fail
  go_loopw [4] (fun i wr => ∃ k : Nat, k ≤ n ∧ i = .int .i64 k ∧ wr.rowIs w.heap.size 155 (n * 3) (firstOp f0 f1 f2 k) ∧ Below w.heap.size w wr) (fun i _ => n - (intOf i).toNat)
  case atStart => exact ⟨0, by omega, rfl, HR.out, (Below.refl _ _).alloc (Nat.le_refl _) _⟩
  case round =>
    obtain ⟨k, hk, rfl, hrow, hB⟩ := hrel
    have HB : Hid _ := hB
    have HRW : Hid _ := hrow
    clear hrow
    by_cases hlt' : k < n
    · have hhw : ∀ q, wr.cell? ⟨b, q, none⟩ = w.cell? ⟨b, q, none⟩ := fun q => hB.cell (p := ⟨b, q, none⟩) hlt
      have hck := HC.out k hlt'
      simp only [← hhw] at hck
      obtain ⟨c0, c1, c2⟩ := hck
      clear hB hhw
      go_wp2_with fail
      refine (toOp_any (f0 k) (f1 k) (f2 k) wr).mono ?_
      rintro e w1 ⟨rfl, hb1⟩
      have HB1 : Hid (Below w.heap.size w w1) := HB.out.trans (hb1.mono HB.out.size)
      have hrw1 : w1.rowIs w.heap.size 155 (n * 3) (firstOp f0 f1 f2 k) := World.rowIs.of_block HRW.out (hb1.block _ (World.rowIs.lt HRW.out))
      have HRW1 : Hid _ := hrw1
      have o0 : ∃ u, w1.cell? ⟨w.heap.size, k * 3, none⟩ = some (.int .i64 u) := ⟨0, by have := World.rowIs.cell HRW1.out (i := k * 3) (by omega); simpa [firstOp, show (k * 3) % 3 = 0 from by omega, show (k * 3) / 3 = k from by omega] using this⟩
      obtain ⟨u0', o0⟩ := o0
      have o1 : ∃ u, w1.cell? ⟨w.heap.size, k * 3 + 1, none⟩ = some (.int .i64 u) := ⟨0, by have := World.rowIs.cell HRW1.out (i := k * 3 + 1) (by omega); simpa [firstOp, show (k * 3 + 1) % 3 = 1 from by omega, show (k * 3 + 1) / 3 = k from by omega] using this⟩
      obtain ⟨u1', o1⟩ := o1
      have o2 : ∃ u, w1.cell? ⟨w.heap.size, k * 3 + 2, none⟩ = some (.int .i64 u) := ⟨0, by have := World.rowIs.cell HRW1.out (i := k * 3 + 2) (by omega); simpa [firstOp, show (k * 3 + 2) % 3 = 2 from by omega, show (k * 3 + 2) / 3 = k from by omega] using this⟩
      obtain ⟨u2', o2⟩ := o2
      have hfz : ∀ j, w1.frozen? ⟨w.heap.size, j, none⟩ = false := fun j => World.rowIs.frozen HRW1.out j
      clear hb1 hrw1 c0 c1 c2
      go_wp2_with fail
      refine ⟨⟨k + 1, by omega, by go_num, ?_, belowS (belowS (belowS (HB1.out) (Nat.le_refl _)) (Nat.le_refl _)) (Nat.le_refl _)⟩, by simp [intOf]; omega⟩
      refine World.rowIs.congr (World.rowIs.set (World.rowIs.set (World.rowIs.set (HRW1.out) (k * 3) (.int .i64 (f0 k))) (k * 3 + 1) (.int .i64 (f1 k))) (k * 3 + 2) (.int .i64 (f2 k))) fun q hq => ?_
      exact firstOp_step f0 f1 f2 k q
    · obtain rfl : k = n := by omega
      clear hB
      go_wp2_with fail
      go_ret
      refine ⟨rfl, .inr ⟨w.heap.size, 0, rfl, World.rowIs.lt HRW.out, fun i hi => ?_⟩, HB.out, World.rowIs.lt HRW.out, fun q => World.rowIs.frozen HRW.out q⟩
      have r0 := World.rowIs.cell HRW.out (i := i * 3) (by omega)
      simp only [firstOp, show (i * 3) % 3 = 0 from by omega, show (i * 3) / 3 = i from by omega, hi, if_true] at r0
      have r1 := World.rowIs.cell HRW.out (i := i * 3 + 1) (by omega)
      simp only [firstOp, show (i * 3 + 1) % 3 = 1 from by omega, show (i * 3 + 1) / 3 = i from by omega, hi, if_true] at r1
      have r2 := World.rowIs.cell HRW.out (i := i * 3 + 2) (by omega)
      simp only [firstOp, show (i * 3 + 2) % 3 = 2 from by omega, show (i * 3 + 2) / 3 = i from by omega, hi, if_true] at r2
      exact ⟨by rw [Nat.zero_add]; exact r0, by rw [Nat.zero_add]; exact r1, by rw [Nat.zero_add]; exact r2⟩
theorem toOpS_any (a : Option Addr) (n cap : Nat) (f0 : Nat → Int) (f1 : Nat → Int) (f2 : Nat → Int) (w : World) (hn : n ≤ 1048576) (h : OpS w a n f0 f1 f2) :
    Calls Try.prog 50 #[.slice a n cap] w fun e w' => e = .returned (.slice (some ⟨w.heap.size, 0, none⟩) n n) ∧ OpS w' (some ⟨w.heap.size, 0, none⟩) n f0 f1 f2 ∧ Below w.heap.size w w' :=
  (toOpSx_any a n cap f0 f1 f2 w hn h).mono fun e w' ⟨h1, h2, h3, _, _⟩ => ⟨h1, h2, h3⟩
theorem toOpS_ex (a : Option Addr) (n cap : Nat) (f0 : Nat → Int) (f1 : Nat → Int) (f2 : Nat → Int) (w : World) (hn : n ≤ 1048576) (h : OpS w a n f0 f1 f2) :
    Calls Try.prog 50 #[.slice a n cap] w fun e w' => ∃ b, w.heap.size ≤ b ∧ b < w'.heap.size ∧ e = .returned (.slice (some ⟨b, 0, none⟩) n n) ∧ OpS w' (some ⟨b, 0, none⟩) n f0 f1 f2 ∧ Below w.heap.size w w' :=
  (toOpSx_any a n cap f0 f1 f2 w hn h).mono fun e w' ⟨h1, h2, h3, h4, _⟩ => ⟨_, Nat.le_refl _, h4, h1, h2, h3⟩
theorem toOpS_exf (a : Option Addr) (n cap : Nat) (f0 : Nat → Int) (f1 : Nat → Int) (f2 : Nat → Int) (w : World) (hn : n ≤ 1048576) (h : OpS w a n f0 f1 f2) :
    Calls Try.prog 50 #[.slice a n cap] w fun e w' => ∃ b, w.heap.size ≤ b ∧ b < w'.heap.size ∧ e = .returned (.slice (some ⟨b, 0, none⟩) n n) ∧ OpS w' (some ⟨b, 0, none⟩) n f0 f1 f2 ∧ Below w.heap.size w w' ∧ ∀ q, w'.frozen? ⟨b, q, none⟩ = false :=
  (toOpSx_any a n cap f0 f1 f2 w hn h).mono fun e w' ⟨h1, h2, h3, h4, h5⟩ => ⟨_, Nat.le_refl _, h4, h1, h2, h3, h5⟩
set_option maxRecDepth 100000 in
set_option maxHeartbeats 4000000 in
theorem eqOpS_any (a a' : Option Addr) (n cap cap' : Nat) (f0 : Nat → Int) (f1 : Nat → Int) (f2 : Nat → Int) (w : World) (hn : n ≤ maxLen) (h : OpS w a n f0 f1 f2) (h' : OpS w a' n f0 f1 f2) :
    Calls Try.prog 52 #[.slice a n cap, .slice a' n cap'] w fun e w' => e = .returned (.bool true) ∧ Below w.heap.size w w' := by
  unfold maxLen at hn
  rcases h with h0 | ⟨b, off, rfl, hlt, hc⟩
  · subst h0
    clear h'
    go_enter Try.func52, Try.ntmps52
    go_wp2_with fail
    refine Go.wp_loop_rounds 1 ?_
    rw [Go.rounds_succ]
    go_wp2_with fail
    go_ret
    exact ⟨rfl, Below.refl _ _⟩
  rcases h' with h0 | ⟨b', off', rfl, hlt', hc'⟩
  · subst h0
    clear hc hlt
    go_enter Try.func52, Try.ntmps52
    go_wp2_with fail
    refine Go.wp_loop_rounds 1 ?_
    rw [Go.rounds_succ]
    go_wp2_with fail
    go_ret
    exact ⟨rfl, Below.refl _ _⟩
  have HC : Hid _ := hc
  have HC' : Hid _ := hc'
  clear hc hc'
  go_enter Try.func52, Try.ntmps52
  go_wp2_with fail
  go_loopw [5] (fun i wr => ∃ k : Nat, k ≤ n ∧ i = .int .i64 k ∧ Below w.heap.size w wr) (fun i _ => n - (intOf i).toNat)
  case atStart => exact ⟨0, by omega, rfl, Below.refl _ _⟩
  case round =>
    obtain ⟨k, hk, rfl, hB⟩ := hrel
    have HB : Hid _ := hB
    by_cases hlt2 : k < n
    · have hhw : ∀ q, wr.cell? ⟨b, q, none⟩ = w.cell? ⟨b, q, none⟩ := fun q => hB.cell (p := ⟨b, q, none⟩) hlt
      have hhw' : ∀ q, wr.cell? ⟨b', q, none⟩ = w.cell? ⟨b', q, none⟩ := fun q => hB.cell (p := ⟨b', q, none⟩) hlt'
      have hck := HC.out k hlt2
      have hck' := HC'.out k hlt2
      simp only [← hhw] at hck
      simp only [← hhw'] at hck'
      obtain ⟨c0, c1, c2⟩ := hck
      obtain ⟨d0, d1, d2⟩ := hck'
      have hik : (k : Int) < (n : Int) := by omega
      have HD : Below wr.heap.size wr wr.drew ∧ wr.drew.cell? ⟨b, off + k * 3, none⟩ = some (.int .i64 (f0 k)) ∧ wr.drew.cell? ⟨b, off + k * 3 + 1, none⟩ = some (.int .i64 (f1 k)) ∧ wr.drew.cell? ⟨b, off + k * 3 + 2, none⟩ = some (.int .i64 (f2 k)) ∧ wr.drew.cell? ⟨b', off' + k * 3, none⟩ = some (.int .i64 (f0 k)) ∧ wr.drew.cell? ⟨b', off' + k * 3 + 1, none⟩ = some (.int .i64 (f1 k)) ∧ wr.drew.cell? ⟨b', off' + k * 3 + 2, none⟩ = some (.int .i64 (f2 k)) := ⟨(Below.refl _ _).drew, c0, c1, c2, d0, d1, d2⟩
      clear hB hhw hhw'
      go_wp2_with fail
      clear c0 c1 c2 d0 d1 d2
      go_region_held2 (fun W => Below wr.heap.size wr W ∧ W.cell? ⟨b, off + k * 3, none⟩ = some (.int .i64 (f0 k)) ∧ W.cell? ⟨b, off + k * 3 + 1, none⟩ = some (.int .i64 (f1 k)) ∧ W.cell? ⟨b, off + k * 3 + 2, none⟩ = some (.int .i64 (f2 k)) ∧ W.cell? ⟨b', off' + k * 3, none⟩ = some (.int .i64 (f0 k)) ∧ W.cell? ⟨b', off' + k * 3 + 1, none⟩ = some (.int .i64 (f1 k)) ∧ W.cell? ⟨b', off' + k * 3 + 2, none⟩ = some (.int .i64 (f2 k))) (first | with_reducible assumption) ((first | (go_at_call 119; refine (eqOp_any (f0 k) (f1 k) (f2 k) _).mono ?_; rintro e w8 ⟨rfl, hb8⟩; have HK := keepC6 (by with_reducible assumption) hb8; clear hb8)))
      have HBK : Hid (Below w.heap.size w w8) := HB.out.trans (HK.1.mono HB.out.size)
      clear HK
      go_wp2_with fail
      exact ⟨⟨k + 1, by omega, by go_num, HBK.out⟩, by simp [intOf]; omega⟩
    · clear hB
      go_wp2_with fail
      go_ret
      exact ⟨rfl, HB.out⟩
end Go.Proofs.Ythhibeepfecmdaa
