/- Slices of laws.Rule and impl.Rule. -/
import Derived.Test.YtfienpoebndfpaaNum
import Derived.Test.YtfienpoebndfpaaHeap
import Derived.Test.YtfienpoebndfpaaKeep
import Derived.Deep.OwnRows
import Derived.Laws.MakeOwn
import Derived.Deep.RegionHeld2
namespace Go.Proofs.Ytfienpoebndfpaa
open Go.ChangeShapes Go.WideShapes Go.ChangeAt Go.RowKit
set_option linter.unusedVariables false

theorem cellsRule : (Try.prog.info? 60).map (·.size) = some 6 := by kernel_rfl
def RuleS (w : World) (a : Option Addr) (n : Nat) (f0 : Nat → Int) (f1 : Nat → Int) (f2 : Nat → Int) (f3 : Nat → Int) (f4 : Nat → Bool) (f5 : Nat → Bool) : Prop := n = 0 ∨ ∃ b off, a = some ⟨b, off, none⟩ ∧ b < w.heap.size ∧ ∀ i, i < n → w.cell? ⟨b, off + i * 6, none⟩ = some (.int .i64 (f0 i)) ∧ w.cell? ⟨b, off + i * 6 + 1, none⟩ = some (.int .i64 (f1 i)) ∧ w.cell? ⟨b, off + i * 6 + 2, none⟩ = some (.int .i64 (f2 i)) ∧ w.cell? ⟨b, off + i * 6 + 3, none⟩ = some (.int .i64 (f3 i)) ∧ w.cell? ⟨b, off + i * 6 + 4, none⟩ = some (.bool (f4 i)) ∧ w.cell? ⟨b, off + i * 6 + 5, none⟩ = some (.bool (f5 i))
theorem RuleS.below {w w' : World} {a : Option Addr} {n : Nat} {f0 : Nat → Int} {f1 : Nat → Int} {f2 : Nat → Int} {f3 : Nat → Int} {f4 : Nat → Bool} {f5 : Nat → Bool} (h : RuleS w a n f0 f1 f2 f3 f4 f5) (hb : Below w.heap.size w w') : RuleS w' a n f0 f1 f2 f3 f4 f5 := by
  refine h.imp id ?_
  rintro ⟨b, off, ha, hlt, hc⟩
  refine ⟨b, off, ha, Nat.lt_of_lt_of_le hlt hb.size, fun i hi => ?_⟩
  have hh : ∀ q, w'.cell? ⟨b, q, none⟩ = w.cell? ⟨b, q, none⟩ := fun q => hb.cell (p := ⟨b, q, none⟩) hlt
  simp only [hh]
  exact hc i hi
theorem mid_rule (w : World) (A B C : Obj) : (((w.alloc A).alloc B).alloc C).heap[w.heap.size + 1]? = some B := get_alloc (get_new (by simp)) (by simp)
set_option maxHeartbeats 1000000 in
theorem toRule_any (v0 : Int) (v1 : Int) (v2 : Int) (v3 : Int) (v4 : Bool) (v5 : Bool) (w : World) :
    Calls Try.prog 73 #[.agg #[.int .i64 v0, .int .i64 v1, .int .i64 v2, .int .i64 v3, .bool v4, .bool v5]] w fun e w' => e = .returned (.agg #[.int .i64 v0, .int .i64 v1, .int .i64 v2, .int .i64 v3, .bool v4, .bool v5]) ∧ Below w.heap.size w w' := by
  go_enter Try.func73, Try.ntmps73
  go_wp2
  refine bodyPost_ret (v := .agg #[.int .i64 v0, .int .i64 v1, .int .i64 v2, .int .i64 v3, .bool v4, .bool v5]) (results_cell_row Try.results73 _ _ (w.heap.size + 1) 60 #[.int .i64 v0, .int .i64 v1, .int .i64 v2, .int .i64 v3, .bool v4, .bool v5] (0, 0) _ rfl (mid_rule w _ _ _) Try.underlying60 rfl cellsRule) rfl ⟨rfl, ?_⟩
  exact (((Below.refl _ _).alloc (Nat.le_refl _) _).alloc (by simp) _).alloc (by simp; omega) _
set_option maxHeartbeats 1000000 in
theorem eqRule_any (v0 : Int) (v1 : Int) (v2 : Int) (v3 : Int) (v4 : Bool) (v5 : Bool) (w : World) :
    Calls Try.prog 75 #[.agg #[.int .i64 v0, .int .i64 v1, .int .i64 v2, .int .i64 v3, .bool v4, .bool v5], .agg #[.int .i64 v0, .int .i64 v1, .int .i64 v2, .int .i64 v3, .bool v4, .bool v5]] w fun e w' => e = .returned (.bool true) ∧ Below w.heap.size w w' := by
  have HB : Hid (∀ o o', Below w.heap.size w ((w.alloc o).alloc o')) := fun o o' => ((Below.refl _ _).alloc (Nat.le_refl _) o).alloc (by simp) o'
  go_enter Try.func75, Try.ntmps75
  go_wp2
  go_ret
  exact ⟨rfl, HB.out _ _⟩
set_option maxHeartbeats 1000000 in
theorem szRuleS_any (a : Option Addr) (n cap : Nat) (w : World) (hn : n ≤ maxLen) :
    Calls Try.prog 24 #[.slice a n cap, .int .i64 1048576] w fun e w' => ∃ r : Int, (0 ≤ r → n ≤ 1048576) ∧ e = .returned (.int .i64 r) ∧ w' = w := by
  unfold maxLen at hn
  by_cases hbig : (1048576 : Int) - n < 0
  · go_enter Try.func24, Try.ntmps24
    go_wp2
    go_ret
    exact ⟨-1, fun h => by omega, rfl, rfl⟩
  · go_enter Try.func24, Try.ntmps24
    go_wp2
    go_ret
    exact ⟨1048576 - n, fun _ => by omega, rfl, rfl⟩
theorem infoRule : (Try.prog.info? 60).map (fun i => (i.zero, i.size)) = some (some (.agg #[.int .i64 0, .int .i64 0, .int .i64 0, .int .i64 0, .bool false, .bool false]), 6) := by kernel_rfl
theorem bytesRule : (Try.prog.info? 60).map (fun i => decide (i.bytes ≤ 256)) = some true := by kernel_rfl
theorem mkRuleS (n : Nat) (hn : n ≤ 1048576) (w : World) : (Instr.makeSlice 30 (.int .i64 (n : Int)) (.int .i64 (n : Int))).run Try.prog w = .ok (.slice (some ⟨w.heap.size, 0, none⟩) n n) (w.alloc (.cells (madeCells #[.int .i64 0, .int .i64 0, .int .i64 0, .int .i64 0, .bool false, .bool false] (n * 6)) 60)) := by
  obtain ⟨i, hi, hz⟩ := Option.map_eq_some_iff.1 infoRule
  obtain ⟨i', hi', hb⟩ := Option.map_eq_some_iff.1 bytesRule
  rw [hi] at hi'
  cases hi'
  simp only [Prod.mk.injEq] at hz
  have hb2 : i.bytes ≤ 256 := by simpa using hb
  have hm : (i.bytes : Int) * (n : Int) ≤ 256 * 1048576 := Int.mul_le_mul (by omega) (by omega) (by omega) (by omega)
  have := run_make (P := Try.prog) w 30 60 i (.agg #[.int .i64 0, .int .i64 0, .int .i64 0, .int .i64 0, .bool false, .bool false]) Try.underlying30 hi hz.1 .i64 .i64 n n (by omega) (by omega) (by omega) (by omega)
  rw [hz.2] at this
  simpa [Value.cells] using this
/-- The first k of them, zeros behind. -/
def firstRule (f0 : Nat → Int) (f1 : Nat → Int) (f2 : Nat → Int) (f3 : Nat → Int) (f4 : Nat → Bool) (f5 : Nat → Bool) (k : Nat) : Nat → Value := fun q => match q % 6 with | 0 => if q / 6 < k then .int .i64 (f0 (q / 6)) else .int .i64 0 | 1 => if q / 6 < k then .int .i64 (f1 (q / 6)) else .int .i64 0 | 2 => if q / 6 < k then .int .i64 (f2 (q / 6)) else .int .i64 0 | 3 => if q / 6 < k then .int .i64 (f3 (q / 6)) else .int .i64 0 | 4 => if q / 6 < k then .bool (f4 (q / 6)) else .bool false | _ => if q / 6 < k then .bool (f5 (q / 6)) else .bool false
theorem madeRule_at (f0 : Nat → Int) (f1 : Nat → Int) (f2 : Nat → Int) (f3 : Nat → Int) (f4 : Nat → Bool) (f5 : Nat → Bool) {m q : Nat} (hq : q < m) : (madeCells #[.int .i64 0, .int .i64 0, .int .i64 0, .int .i64 0, .bool false, .bool false] m)[q]? = some (firstRule f0 f1 f2 f3 f4 f5 0 q) := by
  have h1 : (madeCells #[.int .i64 0, .int .i64 0, .int .i64 0, .int .i64 0, .bool false, .bool false] m)[q]? = some (#[.int .i64 0, .int .i64 0, .int .i64 0, .int .i64 0, .bool false, .bool false][q % 6]!) := by simp [madeCells, hq]
  rw [h1]
  unfold firstRule
  obtain ⟨r, hr⟩ : ∃ r, r = q % 6 := ⟨_, rfl⟩
  have hlt : r < 6 := by omega
  rw [← hr]
  have hc : r = 0 ∨ r = 1 ∨ r = 2 ∨ r = 3 ∨ r = 4 ∨ r = 5 := by omega
  rcases hc with rfl | rfl | rfl | rfl | rfl | rfl <;> simp
theorem firstRule_step (f0 : Nat → Int) (f1 : Nat → Int) (f2 : Nat → Int) (f3 : Nat → Int) (f4 : Nat → Bool) (f5 : Nat → Bool) (k q : Nat) : (if q = k * 6 + 5 then .bool (f5 k) else (if q = k * 6 + 4 then .bool (f4 k) else (if q = k * 6 + 3 then .int .i64 (f3 k) else (if q = k * 6 + 2 then .int .i64 (f2 k) else (if q = k * 6 + 1 then .int .i64 (f1 k) else (if q = k * 6 then .int .i64 (f0 k) else firstRule f0 f1 f2 f3 f4 f5 k q)))))) = firstRule f0 f1 f2 f3 f4 f5 (k + 1) q := by
  obtain ⟨d, r, hr, rfl⟩ : ∃ d r, r < 6 ∧ q = d * 6 + r := ⟨q / 6, q % 6, Nat.mod_lt _ (by omega), by omega⟩
  have e1 : (d * 6 + r) / 6 = d := by omega
  have e2 : (d * 6 + r) % 6 = r := by omega
  unfold firstRule
  rw [e1, e2]
  by_cases hd : d = k
  · subst hd
    have hc : r = 0 ∨ r = 1 ∨ r = 2 ∨ r = 3 ∨ r = 4 ∨ r = 5 := by omega
    rcases hc with rfl | rfl | rfl | rfl | rfl | rfl <;> simp
  · have n0 : ¬ d * 6 + r = k * 6 := by omega
    have n1 : ¬ d * 6 + r = k * 6 + 1 := by omega
    have n2 : ¬ d * 6 + r = k * 6 + 2 := by omega
    have n3 : ¬ d * 6 + r = k * 6 + 3 := by omega
    have n4 : ¬ d * 6 + r = k * 6 + 4 := by omega
    have n5 : ¬ d * 6 + r = k * 6 + 5 := by omega
    have hlt : (d < k + 1) = (d < k) := by simp; omega
    rw [if_neg n5, if_neg n4, if_neg n3, if_neg n2, if_neg n1, if_neg n0]
    simp only [hlt]
set_option maxRecDepth 100000 in
set_option maxHeartbeats 2000000 in
theorem toRuleS_any (a : Option Addr) (n cap : Nat) (f0 : Nat → Int) (f1 : Nat → Int) (f2 : Nat → Int) (f3 : Nat → Int) (f4 : Nat → Bool) (f5 : Nat → Bool) (w : World) (hn : n ≤ 1048576) (h : RuleS w a n f0 f1 f2 f3 f4 f5) :
    Calls Try.prog 27 #[.slice a n cap] w fun e w' => e = .returned (.slice (some ⟨w.heap.size, 0, none⟩) n n) ∧ RuleS w' (some ⟨w.heap.size, 0, none⟩) n f0 f1 f2 f3 f4 f5 ∧ Below w.heap.size w w' := by
  have hmk := mkRuleS n hn
  rcases h with h0 | ⟨b, off, rfl, hlt, hc⟩
  · subst h0
    simp only [Int.natCast_zero] at hmk
    go_enter Try.func27, Try.ntmps27
    go_wp2
    refine Go.wp_loop_rounds 1 ?_
    rw [Go.rounds_succ]
    go_wp2
    go_ret
    exact ⟨rfl, .inl rfl, (Below.refl _ _).alloc (Nat.le_refl _) _⟩
  have HC : Hid _ := hc
  have hrow : (w.alloc (.cells (madeCells #[.int .i64 0, .int .i64 0, .int .i64 0, .int .i64 0, .bool false, .bool false] (n * 6)) 60)).rowIs w.heap.size 60 (n * 6) (firstRule f0 f1 f2 f3 f4 f5 0) := by
    refine ⟨_, get_new rfl, size_madeCells _ _, fun q hq => ?_⟩
    exact madeRule_at f0 f1 f2 f3 f4 f5 hq
  have HR : Hid _ := hrow
  clear hc hrow
  go_enter Try.func27, Try.ntmps27
  go_wp2_with fail
  go_loopw [4] (fun i wr => ∃ k : Nat, k ≤ n ∧ i = .int .i64 k ∧ wr.rowIs w.heap.size 60 (n * 6) (firstRule f0 f1 f2 f3 f4 f5 k) ∧ Below w.heap.size w wr) (fun i _ => n - (intOf i).toNat)
  case atStart => exact ⟨0, by omega, rfl, HR.out, (Below.refl _ _).alloc (Nat.le_refl _) _⟩
  case round =>
    obtain ⟨k, hk, rfl, hrow, hB⟩ := hrel
    have HB : Hid _ := hB
    have HRW : Hid _ := hrow
    clear hrow
    by_cases hlt' : k < n
    · have hhw : ∀ q, wr.cell? ⟨b, q, none⟩ = w.cell? ⟨b, q, none⟩ := fun q => hB.cell (p := ⟨b, q, none⟩) hlt
      have hck := HC.out k hlt'
      simp only [← hhw] at hck
      obtain ⟨c0, c1, c2, c3, c4, c5⟩ := hck
      clear hB hhw
      go_wp2_with fail
      refine (toRule_any (f0 k) (f1 k) (f2 k) (f3 k) (f4 k) (f5 k) wr).mono ?_
      rintro e w1 ⟨rfl, hb1⟩
      have HB1 : Hid (Below w.heap.size w w1) := HB.out.trans (hb1.mono HB.out.size)
      have hrw1 : w1.rowIs w.heap.size 60 (n * 6) (firstRule f0 f1 f2 f3 f4 f5 k) := World.rowIs.of_block HRW.out (hb1.block _ (World.rowIs.lt HRW.out))
      have HRW1 : Hid _ := hrw1
      have o0 : ∃ u, w1.cell? ⟨w.heap.size, k * 6, none⟩ = some (.int .i64 u) := ⟨0, by have := World.rowIs.cell HRW1.out (i := k * 6) (by omega); simpa [firstRule, show (k * 6) % 6 = 0 from by omega, show (k * 6) / 6 = k from by omega] using this⟩
      obtain ⟨u0', o0⟩ := o0
      have o1 : ∃ u, w1.cell? ⟨w.heap.size, k * 6 + 1, none⟩ = some (.int .i64 u) := ⟨0, by have := World.rowIs.cell HRW1.out (i := k * 6 + 1) (by omega); simpa [firstRule, show (k * 6 + 1) % 6 = 1 from by omega, show (k * 6 + 1) / 6 = k from by omega] using this⟩
      obtain ⟨u1', o1⟩ := o1
      have o2 : ∃ u, w1.cell? ⟨w.heap.size, k * 6 + 2, none⟩ = some (.int .i64 u) := ⟨0, by have := World.rowIs.cell HRW1.out (i := k * 6 + 2) (by omega); simpa [firstRule, show (k * 6 + 2) % 6 = 2 from by omega, show (k * 6 + 2) / 6 = k from by omega] using this⟩
      obtain ⟨u2', o2⟩ := o2
      have o3 : ∃ u, w1.cell? ⟨w.heap.size, k * 6 + 3, none⟩ = some (.int .i64 u) := ⟨0, by have := World.rowIs.cell HRW1.out (i := k * 6 + 3) (by omega); simpa [firstRule, show (k * 6 + 3) % 6 = 3 from by omega, show (k * 6 + 3) / 6 = k from by omega] using this⟩
      obtain ⟨u3', o3⟩ := o3
      have o4 : ∃ u, w1.cell? ⟨w.heap.size, k * 6 + 4, none⟩ = some (.bool u) := ⟨false, by have := World.rowIs.cell HRW1.out (i := k * 6 + 4) (by omega); simpa [firstRule, show (k * 6 + 4) % 6 = 4 from by omega, show (k * 6 + 4) / 6 = k from by omega] using this⟩
      obtain ⟨u4', o4⟩ := o4
      have o5 : ∃ u, w1.cell? ⟨w.heap.size, k * 6 + 5, none⟩ = some (.bool u) := ⟨false, by have := World.rowIs.cell HRW1.out (i := k * 6 + 5) (by omega); simpa [firstRule, show (k * 6 + 5) % 6 = 5 from by omega, show (k * 6 + 5) / 6 = k from by omega] using this⟩
      obtain ⟨u5', o5⟩ := o5
      have hfz : ∀ j, w1.frozen? ⟨w.heap.size, j, none⟩ = false := fun j => World.rowIs.frozen HRW1.out j
      clear hb1 hrw1 c0 c1 c2 c3 c4 c5
      go_wp2_with fail
      refine ⟨⟨k + 1, by omega, by go_num, ?_, belowS (belowS (belowS (belowS (belowS (belowS (HB1.out) (Nat.le_refl _)) (Nat.le_refl _)) (Nat.le_refl _)) (Nat.le_refl _)) (Nat.le_refl _)) (Nat.le_refl _)⟩, by simp [intOf]; omega⟩
      refine World.rowIs.congr (World.rowIs.set (World.rowIs.set (World.rowIs.set (World.rowIs.set (World.rowIs.set (World.rowIs.set (HRW1.out) (k * 6) (.int .i64 (f0 k))) (k * 6 + 1) (.int .i64 (f1 k))) (k * 6 + 2) (.int .i64 (f2 k))) (k * 6 + 3) (.int .i64 (f3 k))) (k * 6 + 4) (.bool (f4 k))) (k * 6 + 5) (.bool (f5 k))) fun q hq => ?_
      exact firstRule_step f0 f1 f2 f3 f4 f5 k q
    · obtain rfl : k = n := by omega
      clear hB
      go_wp2_with fail
      go_ret
      refine ⟨rfl, .inr ⟨w.heap.size, 0, rfl, World.rowIs.lt HRW.out, fun i hi => ?_⟩, HB.out⟩
      have r0 := World.rowIs.cell HRW.out (i := i * 6) (by omega)
      simp only [firstRule, show (i * 6) % 6 = 0 from by omega, show (i * 6) / 6 = i from by omega, hi, if_true] at r0
      have r1 := World.rowIs.cell HRW.out (i := i * 6 + 1) (by omega)
      simp only [firstRule, show (i * 6 + 1) % 6 = 1 from by omega, show (i * 6 + 1) / 6 = i from by omega, hi, if_true] at r1
      have r2 := World.rowIs.cell HRW.out (i := i * 6 + 2) (by omega)
      simp only [firstRule, show (i * 6 + 2) % 6 = 2 from by omega, show (i * 6 + 2) / 6 = i from by omega, hi, if_true] at r2
      have r3 := World.rowIs.cell HRW.out (i := i * 6 + 3) (by omega)
      simp only [firstRule, show (i * 6 + 3) % 6 = 3 from by omega, show (i * 6 + 3) / 6 = i from by omega, hi, if_true] at r3
      have r4 := World.rowIs.cell HRW.out (i := i * 6 + 4) (by omega)
      simp only [firstRule, show (i * 6 + 4) % 6 = 4 from by omega, show (i * 6 + 4) / 6 = i from by omega, hi, if_true] at r4
      have r5 := World.rowIs.cell HRW.out (i := i * 6 + 5) (by omega)
      simp only [firstRule, show (i * 6 + 5) % 6 = 5 from by omega, show (i * 6 + 5) / 6 = i from by omega, hi, if_true] at r5
      exact ⟨by rw [Nat.zero_add]; exact r0, by rw [Nat.zero_add]; exact r1, by rw [Nat.zero_add]; exact r2, by rw [Nat.zero_add]; exact r3, by rw [Nat.zero_add]; exact r4, by rw [Nat.zero_add]; exact r5⟩
set_option maxRecDepth 100000 in
set_option maxHeartbeats 4000000 in
theorem eqRuleS_any (a a' : Option Addr) (n cap cap' : Nat) (f0 : Nat → Int) (f1 : Nat → Int) (f2 : Nat → Int) (f3 : Nat → Int) (f4 : Nat → Bool) (f5 : Nat → Bool) (w : World) (hn : n ≤ maxLen) (h : RuleS w a n f0 f1 f2 f3 f4 f5) (h' : RuleS w a' n f0 f1 f2 f3 f4 f5) :
    Calls Try.prog 30 #[.slice a n cap, .slice a' n cap'] w fun e w' => e = .returned (.bool true) ∧ Below w.heap.size w w' := by
  unfold maxLen at hn
  rcases h with h0 | ⟨b, off, rfl, hlt, hc⟩
  · subst h0
    clear h'
    go_enter Try.func30, Try.ntmps30
    go_wp2_with fail
    refine Go.wp_loop_rounds 1 ?_
    rw [Go.rounds_succ]
    go_wp2_with fail
    go_ret
    exact ⟨rfl, Below.refl _ _⟩
  rcases h' with h0 | ⟨b', off', rfl, hlt', hc'⟩
  · subst h0
    clear hc hlt
    go_enter Try.func30, Try.ntmps30
    go_wp2_with fail
    refine Go.wp_loop_rounds 1 ?_
    rw [Go.rounds_succ]
    go_wp2_with fail
    go_ret
    exact ⟨rfl, Below.refl _ _⟩
  have HC : Hid _ := hc
  have HC' : Hid _ := hc'
  clear hc hc'
  go_enter Try.func30, Try.ntmps30
  go_wp2_with fail
  go_loopw [5] (fun i wr => ∃ k : Nat, k ≤ n ∧ i = .int .i64 k ∧ Below w.heap.size w wr) (fun i _ => n - (intOf i).toNat)
  case atStart => exact ⟨0, by omega, rfl, Below.refl _ _⟩
  case round =>
    obtain ⟨k, hk, rfl, hB⟩ := hrel
    have HB : Hid _ := hB
    by_cases hlt2 : k < n
    · have hhw : ∀ q, wr.cell? ⟨b, q, none⟩ = w.cell? ⟨b, q, none⟩ := fun q => hB.cell (p := ⟨b, q, none⟩) hlt
      have hhw' : ∀ q, wr.cell? ⟨b', q, none⟩ = w.cell? ⟨b', q, none⟩ := fun q => hB.cell (p := ⟨b', q, none⟩) hlt'
      have hck := HC.out k hlt2
      have hck' := HC'.out k hlt2
      simp only [← hhw] at hck
      simp only [← hhw'] at hck'
      obtain ⟨c0, c1, c2, c3, c4, c5⟩ := hck
      obtain ⟨d0, d1, d2, d3, d4, d5⟩ := hck'
      have hik : (k : Int) < (n : Int) := by omega
      have HD : Below wr.heap.size wr wr.drew ∧ wr.drew.cell? ⟨b, off + k * 6, none⟩ = some (.int .i64 (f0 k)) ∧ wr.drew.cell? ⟨b, off + k * 6 + 1, none⟩ = some (.int .i64 (f1 k)) ∧ wr.drew.cell? ⟨b, off + k * 6 + 2, none⟩ = some (.int .i64 (f2 k)) ∧ wr.drew.cell? ⟨b, off + k * 6 + 3, none⟩ = some (.int .i64 (f3 k)) ∧ wr.drew.cell? ⟨b, off + k * 6 + 4, none⟩ = some (.bool (f4 k)) ∧ wr.drew.cell? ⟨b, off + k * 6 + 5, none⟩ = some (.bool (f5 k)) ∧ wr.drew.cell? ⟨b', off' + k * 6, none⟩ = some (.int .i64 (f0 k)) ∧ wr.drew.cell? ⟨b', off' + k * 6 + 1, none⟩ = some (.int .i64 (f1 k)) ∧ wr.drew.cell? ⟨b', off' + k * 6 + 2, none⟩ = some (.int .i64 (f2 k)) ∧ wr.drew.cell? ⟨b', off' + k * 6 + 3, none⟩ = some (.int .i64 (f3 k)) ∧ wr.drew.cell? ⟨b', off' + k * 6 + 4, none⟩ = some (.bool (f4 k)) ∧ wr.drew.cell? ⟨b', off' + k * 6 + 5, none⟩ = some (.bool (f5 k)) := ⟨(Below.refl _ _).drew, c0, c1, c2, c3, c4, c5, d0, d1, d2, d3, d4, d5⟩
      clear hB hhw hhw'
      go_wp2_with fail
      clear c0 c1 c2 c3 c4 c5 d0 d1 d2 d3 d4 d5
      go_region_held2 (fun W => Below wr.heap.size wr W ∧ W.cell? ⟨b, off + k * 6, none⟩ = some (.int .i64 (f0 k)) ∧ W.cell? ⟨b, off + k * 6 + 1, none⟩ = some (.int .i64 (f1 k)) ∧ W.cell? ⟨b, off + k * 6 + 2, none⟩ = some (.int .i64 (f2 k)) ∧ W.cell? ⟨b, off + k * 6 + 3, none⟩ = some (.int .i64 (f3 k)) ∧ W.cell? ⟨b, off + k * 6 + 4, none⟩ = some (.bool (f4 k)) ∧ W.cell? ⟨b, off + k * 6 + 5, none⟩ = some (.bool (f5 k)) ∧ W.cell? ⟨b', off' + k * 6, none⟩ = some (.int .i64 (f0 k)) ∧ W.cell? ⟨b', off' + k * 6 + 1, none⟩ = some (.int .i64 (f1 k)) ∧ W.cell? ⟨b', off' + k * 6 + 2, none⟩ = some (.int .i64 (f2 k)) ∧ W.cell? ⟨b', off' + k * 6 + 3, none⟩ = some (.int .i64 (f3 k)) ∧ W.cell? ⟨b', off' + k * 6 + 4, none⟩ = some (.bool (f4 k)) ∧ W.cell? ⟨b', off' + k * 6 + 5, none⟩ = some (.bool (f5 k))) (first | with_reducible assumption) ((first | (go_at_call 75; refine (eqRule_any (f0 k) (f1 k) (f2 k) (f3 k) (f4 k) (f5 k) _).mono ?_; rintro e w8 ⟨rfl, hb8⟩; have HK := keepC12 (by with_reducible assumption) hb8; clear hb8)))
      have HBK : Hid (Below w.heap.size w w8) := HB.out.trans (HK.1.mono HB.out.size)
      clear HK
      go_wp2_with fail
      exact ⟨⟨k + 1, by omega, by go_num, HBK.out⟩, by simp [intOf]; omega⟩
    · clear hB
      go_wp2_with fail
      go_ret
      exact ⟨rfl, HB.out⟩
end Go.Proofs.Ytfienpoebndfpaa
