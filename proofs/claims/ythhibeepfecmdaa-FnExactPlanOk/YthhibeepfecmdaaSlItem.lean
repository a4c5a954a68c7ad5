/- Slices of laws.Item and impl.Item. -/
import Derived.Test.YthhibeepfecmdaaNum
import Derived.Test.YthhibeepfecmdaaHeap
import Derived.Test.YthhibeepfecmdaaKeep
import Derived.Test.YthhibeepfecmdaaCellsN
import Derived.Deep.OwnRows
import Derived.Laws.MakeOwn
import Derived.Deep.RegionHeld2
namespace Go.Proofs.Ythhibeepfecmdaa
open Go.ChangeShapes Go.WideShapes Go.ChangeAt Go.RowKit
set_option linter.unusedVariables false

theorem cellsItem : (Try.prog.info? 150).map (·.size) = some 2 := by kernel_rfl
def ItemS (w : World) (a : Option Addr) (n : Nat) (f0 : Nat → Int) (f1 : Nat → ByteArray) : Prop := n = 0 ∨ ∃ b off, a = some ⟨b, off, none⟩ ∧ b < w.heap.size ∧ ∀ i, i < n → w.cell? ⟨b, off + i * 2, none⟩ = some (.int .i64 (f0 i)) ∧ w.cell? ⟨b, off + i * 2 + 1, none⟩ = some (.string (f1 i)) ∧ (f1 i).size ≤ maxLen
theorem ItemS.below {w w' : World} {a : Option Addr} {n : Nat} {f0 : Nat → Int} {f1 : Nat → ByteArray} (h : ItemS w a n f0 f1) (hb : Below w.heap.size w w') : ItemS w' a n f0 f1 := by
  refine h.imp id ?_
  rintro ⟨b, off, ha, hlt, hc⟩
  refine ⟨b, off, ha, Nat.lt_of_lt_of_le hlt hb.size, fun i hi => ?_⟩
  have hh : ∀ q, w'.cell? ⟨b, q, none⟩ = w.cell? ⟨b, q, none⟩ := fun q => hb.cell (p := ⟨b, q, none⟩) hlt
  simp only [hh]
  exact hc i hi
theorem ItemS.alloc {w : World} {a : Option Addr} {n : Nat} {f0 : Nat → Int} {f1 : Nat → ByteArray} (h : ItemS w a n f0 f1) (o : Obj) : ItemS (w.alloc o) a n f0 f1 := h.below ((Below.refl _ _).alloc (Nat.le_refl _) _)
theorem ItemS.set {w : World} {b g j n : Nat} {v : Value} {f0 : Nat → Int} {f1 : Nat → ByteArray} (h : ItemS w (some ⟨b, 0, none⟩) n f0 f1) (hg : g ≠ b) : ItemS (w.setCell ⟨g, j, none⟩ v) (some ⟨b, 0, none⟩) n f0 f1 := by
  refine h.imp id ?_
  rintro ⟨b', off, ha, hlt, hc⟩
  cases ha
  have hh : ∀ k, (w.setCell ⟨g, j, none⟩ v).cell? ⟨b, k, none⟩ = w.cell? ⟨b, k, none⟩ := fun k => World.cell?_of_block (w := w) (Below.heap_setCell w ⟨g, j, none⟩ v b (fun e => hg e.symm))
  refine ⟨b, 0, rfl, by simpa [World.setCell] using hlt, fun i hi => ?_⟩
  simp only [hh]
  exact hc i hi
theorem mid_item (w : World) (A B C : Obj) : (((w.alloc A).alloc B).alloc C).heap[w.heap.size + 1]? = some B := get_alloc (get_new (by simp)) (by simp)
set_option maxHeartbeats 1000000 in
theorem toItem_any (v0 : Int) (v1 : ByteArray) (w : World) :
    Calls Try.prog 146 #[.agg #[.int .i64 v0, .string v1]] w fun e w' => e = .returned (.agg #[.int .i64 v0, .string v1]) ∧ Below w.heap.size w w' := by
  go_enter Try.func146, Try.ntmps146
  go_wp2
  refine bodyPost_ret (v := .agg #[.int .i64 v0, .string v1]) (results_cell_row Try.results146 _ _ (w.heap.size + 1) 150 #[.int .i64 v0, .string v1] (0, 0) _ rfl (mid_item w _ _ _) Try.underlying150 rfl cellsItem) rfl ⟨rfl, ?_⟩
  exact (((Below.refl _ _).alloc (Nat.le_refl _) _).alloc (by simp) _).alloc (by simp; omega) _
set_option maxHeartbeats 1000000 in
theorem eqItem_any (v0 : Int) (v1 : ByteArray) (w : World) :
    Calls Try.prog 147 #[.agg #[.int .i64 v0, .string v1], .agg #[.int .i64 v0, .string v1]] w fun e w' => e = .returned (.bool true) ∧ Below w.heap.size w w' := by
  have HB : Hid (∀ o o', Below w.heap.size w ((w.alloc o).alloc o')) := fun o o' => ((Below.refl _ _).alloc (Nat.le_refl _) o).alloc (by simp) o'
  go_enter Try.func147, Try.ntmps147
  go_wp2
  go_ret
  exact ⟨rfl, HB.out _ _⟩
set_option maxHeartbeats 1000000 in
theorem szItem_any (v0 : Int) (v1 : ByteArray) (l : Int) (w : World) (h0 : 0 ≤ l) (h1 : l ≤ 1048576) (hs1 : v1.size ≤ maxLen) :
    Calls Try.prog 145 #[.agg #[.int .i64 v0, .string v1], .int .i64 l] w fun e w' => ∃ r : Int, (0 ≤ r → v1.size ≤ 1048576) ∧ r ≤ l ∧ e = .returned (.int .i64 r) ∧ Below w.heap.size w w' := by
  have HBH : Hid (∀ o, Below w.heap.size w (w.alloc o)) := fun o => (Below.refl _ _).alloc (Nat.le_refl _) o
  unfold maxLen at *
  by_cases hb1 : l - v1.size < 0
  · go_enter Try.func145, Try.ntmps145
    go_wp2_with fail
    go_ret
    exact ⟨-1, fun h => by omega, by omega, rfl, HBH.out _⟩
  go_enter Try.func145, Try.ntmps145
  go_wp2_with fail
  go_ret
  exact ⟨l - v1.size, fun h => by omega, by omega, rfl, HBH.out _⟩
set_option maxHeartbeats 2000000 in
theorem szItemSl_any (a : Option Addr) (n cap : Nat) (f0 : Nat → Int) (f1 : Nat → ByteArray) (l : Int) (w : World) (hn : n ≤ maxLen) (h : ItemS w a n f0 f1) (h0 : 0 ≤ l) (h1 : l ≤ 1048576) :
    Calls Try.prog 112 #[.slice a n cap, .int .i64 l] w fun e w' => ∃ r : Int, (0 ≤ r → n ≤ 1048576 ∧ ∀ i, i < n → (f1 i).size ≤ 1048576) ∧ r ≤ 1048576 ∧ e = .returned (.int .i64 r) ∧ Below w.heap.size w w' := by
  unfold maxLen at hn
  by_cases hbig : l - n < 0
  · go_enter Try.func112, Try.ntmps112
    go_wp2
    go_ret
    exact ⟨-1, fun h => by omega, by omega, rfl, Below.refl _ _⟩
  rcases h with hn0 | ⟨b, off, rfl, hlt, hc⟩
  · subst hn0
    go_enter Try.func112, Try.ntmps112
    go_wp2
    refine Go.wp_loop_rounds 1 ?_
    rw [Go.rounds_succ]
    go_wp2
    go_ret
    exact ⟨l, fun _ => ⟨by omega, fun i hi => by omega⟩, by omega, rfl, Below.refl _ _⟩
  have HC : Hid _ := hc
  clear hc
  go_enter Try.func112, Try.ntmps112
  go_wp2
  go_loopw [1, 5] (fun v i wr => ∃ (k : Nat) (r : Int), k ≤ n ∧ 0 ≤ r ∧ r ≤ 1048576 ∧ n ≤ 1048576 ∧ Hid (∀ j, j < k → (f1 j).size ≤ 1048576) ∧ i = .int .i64 k ∧ v = .int .i64 r ∧ Below w.heap.size w wr) (fun _ i _ => n - (intOf i).toNat)
  case atStart => exact ⟨0, l - n, by omega, by omega, by omega, by omega, fun j hj => by omega, rfl, rfl, Below.refl _ _⟩
  case round =>
    obtain ⟨k, r, hk, hr0, hr1, hn1, hall, rfl, rfl, hB⟩ := hrel
    have HB : Hid _ := hB
    by_cases hlt2 : k < n
    · have hhw : ∀ q, wr.cell? ⟨b, q, none⟩ = w.cell? ⟨b, q, none⟩ := fun q => hB.cell (p := ⟨b, q, none⟩) hlt
      have hck := HC.out k hlt2
      simp only [← hhw] at hck
      obtain ⟨c0, c1, s1⟩ := hck
      have hik : (k : Int) < (n : Int) := by omega
      clear hB hhw
      go_wp2_with fail
      refine (szItem_any (f0 k) (f1 k) r _ hr0 hr1 s1).mono ?_
      rintro e w1 ⟨r1, hr2, hr3, rfl, hb1⟩
      have HB1 : Hid (Below w.heap.size w w1) := HB.out.trans (hb1.mono HB.out.size)
      have HR2 : Hid _ := hr2
      clear hb1 hr2
      by_cases hneg : r1 < 0
      · go_wp2_with fail
        go_ret
        exact ⟨-1, fun h => by omega, by omega, rfl, HB1.out⟩
      · go_wp2_with fail
        refine ⟨⟨k + 1, r1, by omega, by omega, by omega, hn1, fun j hj => ?_, by go_num, rfl, HB1.out⟩, by simp [intOf]; omega⟩
        rcases Nat.lt_or_ge j k with e | e
        · exact hall.out j e
        · obtain rfl : j = k := by omega
          exact HR2.out (by omega)
    · clear hB
      go_wp2_with fail
      go_ret
      exact ⟨r, fun _ => ⟨hn1, fun i hi => hall.out i (by omega)⟩, hr1, rfl, HB.out⟩
theorem infoItem : (Try.prog.info? 150).map (fun i => (i.zero, i.size)) = some (some (.agg #[.int .i64 0, .string ⟨#[]⟩]), 2) := by kernel_rfl
theorem bytesItem : (Try.prog.info? 150).map (fun i => decide (i.bytes ≤ 256)) = some true := by kernel_rfl
theorem mkItemS (n : Nat) (hn : n ≤ 1048576) (w : World) : (Instr.makeSlice 65 (.int .i64 (n : Int)) (.int .i64 (n : Int))).run Try.prog w = .ok (.slice (some ⟨w.heap.size, 0, none⟩) n n) (w.alloc (.cells (madeCells #[.int .i64 0, .string ⟨#[]⟩] (n * 2)) 150)) := by
  obtain ⟨i, hi, hz⟩ := Option.map_eq_some_iff.1 infoItem
  obtain ⟨i', hi', hb⟩ := Option.map_eq_some_iff.1 bytesItem
  rw [hi] at hi'
  cases hi'
  simp only [Prod.mk.injEq] at hz
  have hb2 : i.bytes ≤ 256 := by simpa using hb
  have hm : (i.bytes : Int) * (n : Int) ≤ 256 * 1048576 := Int.mul_le_mul (by omega) (by omega) (by omega) (by omega)
  have := run_make (P := Try.prog) w 65 150 i (.agg #[.int .i64 0, .string ⟨#[]⟩]) Try.underlying65 hi hz.1 .i64 .i64 n n (by omega) (by omega) (by omega) (by omega)
  rw [hz.2] at this
  simpa [Value.cells] using this
/-- The first k of them, zeros behind. -/
def firstItem (f0 : Nat → Int) (f1 : Nat → ByteArray) (k : Nat) : Nat → Value := fun q => match q % 2 with | 0 => if q / 2 < k then .int .i64 (f0 (q / 2)) else .int .i64 0 | _ => if q / 2 < k then .string (f1 (q / 2)) else .string ⟨#[]⟩
theorem madeItem_at (f0 : Nat → Int) (f1 : Nat → ByteArray) {m q : Nat} (hq : q < m) : (madeCells #[.int .i64 0, .string ⟨#[]⟩] m)[q]? = some (firstItem f0 f1 0 q) := by
  have h1 : (madeCells #[.int .i64 0, .string ⟨#[]⟩] m)[q]? = some (#[.int .i64 0, .string ⟨#[]⟩][q % 2]!) := by simp [madeCells, hq]
  rw [h1]
  unfold firstItem
  obtain ⟨r, hr⟩ : ∃ r, r = q % 2 := ⟨_, rfl⟩
  have hlt : r < 2 := by omega
  rw [← hr]
  have hc : r = 0 ∨ r = 1 := by omega
  rcases hc with rfl | rfl <;> simp
theorem firstItem_step (f0 : Nat → Int) (f1 : Nat → ByteArray) (k q : Nat) : (if q = k * 2 + 1 then .string (f1 k) else (if q = k * 2 then .int .i64 (f0 k) else firstItem f0 f1 k q)) = firstItem f0 f1 (k + 1) q := by
  obtain ⟨d, r, hr, rfl⟩ : ∃ d r, r < 2 ∧ q = d * 2 + r := ⟨q / 2, q % 2, Nat.mod_lt _ (by omega), by omega⟩
  have e1 : (d * 2 + r) / 2 = d := by omega
  have e2 : (d * 2 + r) % 2 = r := by omega
  unfold firstItem
  rw [e1, e2]
  by_cases hd : d = k
  · subst hd
    have hc : r = 0 ∨ r = 1 := by omega
    rcases hc with rfl | rfl <;> simp
  · have n0 : ¬ d * 2 + r = k * 2 := by omega
    have n1 : ¬ d * 2 + r = k * 2 + 1 := by omega
    have hlt : (d < k + 1) = (d < k) := by simp; omega
    rw [if_neg n1, if_neg n0]
    simp only [hlt]
set_option maxRecDepth 100000 in
set_option maxHeartbeats 2000000 in
theorem toItemSx_any (a : Option Addr) (n cap : Nat) (f0 : Nat → Int) (f1 : Nat → ByteArray) (w : World) (hn : n ≤ 1048576) (h : ItemS w a n f0 f1) :
    Calls Try.prog 113 #[.slice a n cap] w fun e w' => e = .returned (.slice (some ⟨w.heap.size, 0, none⟩) n n) ∧ ItemS w' (some ⟨w.heap.size, 0, none⟩) n f0 f1 ∧ Below w.heap.size w w' ∧ w.heap.size < w'.heap.size := by
  have hmk := mkItemS n hn
  rcases h with h0 | ⟨b, off, rfl, hlt, hc⟩
  · subst h0
    simp only [Int.natCast_zero] at hmk
    go_enter Try.func113, Try.ntmps113
    go_wp2
    refine Go.wp_loop_rounds 1 ?_
    rw [Go.rounds_succ]
    go_wp2
    go_ret
    exact ⟨rfl, .inl rfl, (Below.refl _ _).alloc (Nat.le_refl _) _, by simp⟩
  have HC : Hid _ := hc
  have hrow : (w.alloc (.cells (madeCells #[.int .i64 0, .string ⟨#[]⟩] (n * 2)) 150)).rowIs w.heap.size 150 (n * 2) (firstItem f0 f1 0) := by
    refine ⟨_, get_new rfl, size_madeCells _ _, fun q hq => ?_⟩
    exact madeItem_at f0 f1 hq
  have HR : Hid _ := hrow
  clear hc hrow
  go_enter Try.func113, Try.ntmps113
  go_wp2_with fail
  go_loopw [4] (fun i wr => ∃ k : Nat, k ≤ n ∧ i = .int .i64 k ∧ wr.rowIs w.heap.size 150 (n * 2) (firstItem f0 f1 k) ∧ Below w.heap.size w wr) (fun i _ => n - (intOf i).toNat)
  case atStart => exact ⟨0, by omega, rfl, HR.out, (Below.refl _ _).alloc (Nat.le_refl _) _⟩
  case round =>
    obtain ⟨k, hk, rfl, hrow, hB⟩ := hrel
    have HB : Hid _ := hB
    have HRW : Hid _ := hrow
    clear hrow
    by_cases hlt' : k < n
    · have hhw : ∀ q, wr.cell? ⟨b, q, none⟩ = w.cell? ⟨b, q, none⟩ := fun q => hB.cell (p := ⟨b, q, none⟩) hlt
      have hck := HC.out k hlt'
      simp only [← hhw] at hck
      obtain ⟨c0, c1, _⟩ := hck
      clear hB hhw
      go_wp2_with fail
      refine (toItem_any (f0 k) (f1 k) wr).mono ?_
      rintro e w1 ⟨rfl, hb1⟩
      have HB1 : Hid (Below w.heap.size w w1) := HB.out.trans (hb1.mono HB.out.size)
      have hrw1 : w1.rowIs w.heap.size 150 (n * 2) (firstItem f0 f1 k) := World.rowIs.of_block HRW.out (hb1.block _ (World.rowIs.lt HRW.out))
      have HRW1 : Hid _ := hrw1
      have o0 : ∃ u, w1.cell? ⟨w.heap.size, k * 2, none⟩ = some (.int .i64 u) := ⟨0, by have := World.rowIs.cell HRW1.out (i := k * 2) (by omega); simpa [firstItem, show (k * 2) % 2 = 0 from by omega, show (k * 2) / 2 = k from by omega] using this⟩
      obtain ⟨u0', o0⟩ := o0
      have o1 : ∃ u, w1.cell? ⟨w.heap.size, k * 2 + 1, none⟩ = some (.string u) := ⟨⟨#[]⟩, by have := World.rowIs.cell HRW1.out (i := k * 2 + 1) (by omega); simpa [firstItem, show (k * 2 + 1) % 2 = 1 from by omega, show (k * 2 + 1) / 2 = k from by omega] using this⟩
      obtain ⟨u1', o1⟩ := o1
      have hfz : ∀ j, w1.frozen? ⟨w.heap.size, j, none⟩ = false := fun j => World.rowIs.frozen HRW1.out j
      clear hb1 hrw1 c0 c1
      go_wp2_with fail
      refine ⟨⟨k + 1, by omega, by go_num, ?_, belowS (belowS (HB1.out) (Nat.le_refl _)) (Nat.le_refl _)⟩, by simp [intOf]; omega⟩
      refine World.rowIs.congr (World.rowIs.set (World.rowIs.set (HRW1.out) (k * 2) (.int .i64 (f0 k))) (k * 2 + 1) (.string (f1 k))) fun q hq => ?_
      exact firstItem_step f0 f1 k q
    · obtain rfl : k = n := by omega
      clear hB
      go_wp2_with fail
      go_ret
      refine ⟨rfl, .inr ⟨w.heap.size, 0, rfl, World.rowIs.lt HRW.out, fun i hi => ?_⟩, HB.out, World.rowIs.lt HRW.out⟩
      have r0 := World.rowIs.cell HRW.out (i := i * 2) (by omega)
      simp only [firstItem, show (i * 2) % 2 = 0 from by omega, show (i * 2) / 2 = i from by omega, hi, if_true] at r0
      have r1 := World.rowIs.cell HRW.out (i := i * 2 + 1) (by omega)
      simp only [firstItem, show (i * 2 + 1) % 2 = 1 from by omega, show (i * 2 + 1) / 2 = i from by omega, hi, if_true] at r1
      exact ⟨by rw [Nat.zero_add]; exact r0, by rw [Nat.zero_add]; exact r1, (HC.out i hi).2.2⟩
theorem toItemS_any (a : Option Addr) (n cap : Nat) (f0 : Nat → Int) (f1 : Nat → ByteArray) (w : World) (hn : n ≤ 1048576) (h : ItemS w a n f0 f1) :
    Calls Try.prog 113 #[.slice a n cap] w fun e w' => e = .returned (.slice (some ⟨w.heap.size, 0, none⟩) n n) ∧ ItemS w' (some ⟨w.heap.size, 0, none⟩) n f0 f1 ∧ Below w.heap.size w w' :=
  (toItemSx_any a n cap f0 f1 w hn h).mono fun e w' ⟨h1, h2, h3, _⟩ => ⟨h1, h2, h3⟩
theorem toItemS_ex (a : Option Addr) (n cap : Nat) (f0 : Nat → Int) (f1 : Nat → ByteArray) (w : World) (hn : n ≤ 1048576) (h : ItemS w a n f0 f1) :
    Calls Try.prog 113 #[.slice a n cap] w fun e w' => ∃ b, w.heap.size ≤ b ∧ b < w'.heap.size ∧ e = .returned (.slice (some ⟨b, 0, none⟩) n n) ∧ ItemS w' (some ⟨b, 0, none⟩) n f0 f1 ∧ Below w.heap.size w w' :=
  (toItemSx_any a n cap f0 f1 w hn h).mono fun e w' ⟨h1, h2, h3, h4⟩ => ⟨_, Nat.le_refl _, h4, h1, h2, h3⟩
set_option maxRecDepth 100000 in
set_option maxHeartbeats 4000000 in
theorem eqItemS_any (a a' : Option Addr) (n cap cap' : Nat) (f0 : Nat → Int) (f1 : Nat → ByteArray) (w : World) (hn : n ≤ maxLen) (h : ItemS w a n f0 f1) (h' : ItemS w a' n f0 f1) :
    Calls Try.prog 115 #[.slice a n cap, .slice a' n cap'] w fun e w' => e = .returned (.bool true) ∧ Below w.heap.size w w' := by
  unfold maxLen at hn
  rcases h with h0 | ⟨b, off, rfl, hlt, hc⟩
  · subst h0
    clear h'
    go_enter Try.func115, Try.ntmps115
    go_wp2_with fail
    refine Go.wp_loop_rounds 1 ?_
    rw [Go.rounds_succ]
    go_wp2_with fail
    go_ret
    exact ⟨rfl, Below.refl _ _⟩
  rcases h' with h0 | ⟨b', off', rfl, hlt', hc'⟩
  · subst h0
    clear hc hlt
    go_enter Try.func115, Try.ntmps115
    go_wp2_with fail
    refine Go.wp_loop_rounds 1 ?_
    rw [Go.rounds_succ]
    go_wp2_with fail
    go_ret
    exact ⟨rfl, Below.refl _ _⟩
  have HC : Hid _ := hc
  have HC' : Hid _ := hc'
  clear hc hc'
  go_enter Try.func115, Try.ntmps115
  go_wp2_with fail
  go_loopw [5] (fun i wr => ∃ k : Nat, k ≤ n ∧ i = .int .i64 k ∧ Below w.heap.size w wr) (fun i _ => n - (intOf i).toNat)
  case atStart => exact ⟨0, by omega, rfl, Below.refl _ _⟩
  case round =>
    obtain ⟨k, hk, rfl, hB⟩ := hrel
    have HB : Hid _ := hB
    by_cases hlt2 : k < n
    · have hhw : ∀ q, wr.cell? ⟨b, q, none⟩ = w.cell? ⟨b, q, none⟩ := fun q => hB.cell (p := ⟨b, q, none⟩) hlt
      have hhw' : ∀ q, wr.cell? ⟨b', q, none⟩ = w.cell? ⟨b', q, none⟩ := fun q => hB.cell (p := ⟨b', q, none⟩) hlt'
      have hck := HC.out k hlt2
      have hck' := HC'.out k hlt2
      simp only [← hhw] at hck
      simp only [← hhw'] at hck'
      obtain ⟨c0, c1, _⟩ := hck
      obtain ⟨d0, d1, _⟩ := hck'
      have hik : (k : Int) < (n : Int) := by omega
      have HD : Below wr.heap.size wr wr.drew ∧ wr.drew.cell? ⟨b, off + k * 2, none⟩ = some (.int .i64 (f0 k)) ∧ wr.drew.cell? ⟨b, off + k * 2 + 1, none⟩ = some (.string (f1 k)) ∧ wr.drew.cell? ⟨b', off' + k * 2, none⟩ = some (.int .i64 (f0 k)) ∧ wr.drew.cell? ⟨b', off' + k * 2 + 1, none⟩ = some (.string (f1 k)) := ⟨(Below.refl _ _).drew, c0, c1, d0, d1⟩
      clear hB hhw hhw'
      go_wp2_with fail
      clear c0 c1 d0 d1
      go_region_held2 (fun W => Below wr.heap.size wr W ∧ W.cell? ⟨b, off + k * 2, none⟩ = some (.int .i64 (f0 k)) ∧ W.cell? ⟨b, off + k * 2 + 1, none⟩ = some (.string (f1 k)) ∧ W.cell? ⟨b', off' + k * 2, none⟩ = some (.int .i64 (f0 k)) ∧ W.cell? ⟨b', off' + k * 2 + 1, none⟩ = some (.string (f1 k))) (first | with_reducible assumption) ((first | (go_at_call 147; refine (eqItem_any (f0 k) (f1 k) _).mono ?_; rintro e w8 ⟨rfl, hb8⟩; have HK := keepC4 (by with_reducible assumption) hb8; clear hb8)))
      have HBK : Hid (Below w.heap.size w w8) := HB.out.trans (HK.1.mono HB.out.size)
      clear HK
      go_wp2_with fail
      exact ⟨⟨k + 1, by omega, by go_num, HBK.out⟩, by simp [intOf]; omega⟩
    · clear hB
      go_wp2_with fail
      go_ret
      exact ⟨rfl, HB.out⟩
end Go.Proofs.Ythhibeepfecmdaa
