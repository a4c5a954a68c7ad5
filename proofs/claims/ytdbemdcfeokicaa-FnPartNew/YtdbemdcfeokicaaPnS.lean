/- spec.PartNew. -/
import Derived.Test.YtdbemdcfeokicaaCpOp
import Derived.Test.YtdbemdcfeokicaaCpInt
import Derived.Test.YtdbemdcfeokicaaPgW
import Derived.Test.YtdbemdcfeokicaaStPart
import Derived.Deep.RegionLawGrows
namespace Go.Proofs.Ytdbemdcfeokicaa
open Go.ChangeShapes Go.WideShapes Go.ChangeAt Go.RowKit
set_option linter.unusedVariables false
theorem mk8 (w : World) : (Instr.makeSlice 52 (.int .i64 8) (.int .i64 8)).run Try.prog w = .ok (.slice (some ⟨w.heap.size, 0, none⟩) 8 8) (w.alloc (.cells #[.int .i64 0, .int .i64 0, .int .i64 0, .int .i64 0, .int .i64 0, .int .i64 0, .int .i64 0, .int .i64 0] 3)) := by kernel_rfl
theorem int8_new (w : World) : IntS (w.alloc (.cells #[.int .i64 0, .int .i64 0, .int .i64 0, .int .i64 0, .int .i64 0, .int .i64 0, .int .i64 0, .int .i64 0] 3)) (some ⟨w.heap.size, 0, none⟩) 8 (fun _ => 0) := by
  refine .inr ⟨w.heap.size, 0, rfl, by simp, fun i hi => ?_⟩
  refine cell_get (get_new rfl) ?_
  have hc : i = 0 ∨ i = 1 ∨ i = 2 ∨ i = 3 ∨ i = 4 ∨ i = 5 ∨ i = 6 ∨ i = 7 := by omega
  rcases hc with rfl | rfl | rfl | rfl | rfl | rfl | rfl | rfl <;> rfl
theorem int8_at {w : World} {m : Nat} (h : m = w.heap.size) : IntS (w.alloc (.cells #[.int .i64 0, .int .i64 0, .int .i64 0, .int .i64 0, .int .i64 0, .int .i64 0, .int .i64 0, .int .i64 0] 3)) (some ⟨m, 0, none⟩) 8 (fun _ => 0) := by subst h; exact int8_new w
set_option maxRecDepth 100000 in
set_option maxHeartbeats 1000000 in
theorem specPartNew_yesC (c n cp : Nat) (f0 f1 f2 : Nat → Int) (W : World) (hn : n ≤ 1048576) (h : OpS W (some ⟨c, 0, none⟩) n f0 f1 f2) (hp : progB n f0 f1 f2 = true) :
    Calls Try.prog 35 #[.slice (some ⟨c, 0, none⟩) n cp] W fun e w' => ∃ (a0 : Option Addr) (p0 : Nat) (a1 : Option Addr) (p1 : Nat) (a4 : Option Addr) (p4 : Nat), e = .returned (.agg #[.slice a0 n p0, .slice a1 8 p1, .int .i64 0, .bool false, .slice a4 0 p4]) ∧ (OpS w' a0 n f0 f1 f2 ∧ IntS w' a1 8 (fun _ => 0) ∧ IntS w' a4 0 (fun _ => 0)) ∧ Below W.heap.size W w' := by
  obtain ⟨i0, hi, hz0, hz1, hz2⟩ := cinfoOp
  have hn1 : 1 ≤ n := by
    simp only [progB, inB, Bool.and_eq_true, decide_eq_true_eq] at hp
    omega
  have HB0 : Hid (Below W.heap.size W (W.alloc (.cells #[.slice none 0 0, .slice none 0 0, .int .i64 0, .bool false, .slice none 0 0] 54))) := (Below.refl _ _).alloc (Nat.le_refl _) _
  have HA : Hid (OpS (W.alloc (.cells #[.slice none 0 0, .slice none 0 0, .int .i64 0, .bool false, .slice none 0 0] 54)) (some ⟨c, 0, none⟩) n f0 f1 f2) := h.alloc _
  have HG : Hid ((W.alloc (.cells #[.slice none 0 0, .slice none 0 0, .int .i64 0, .bool false, .slice none 0 0] 54)).heap[W.heap.size]? = some (.cells #[.slice none 0 0, .slice none 0 0, .int .i64 0, .bool false, .slice none 0 0] 54)) := get_new rfl
  have hmk := mk8
  have hbt : (0 + n) * i0.bytes ≤ 140737488355328 := by
    have := Nat.mul_le_mul (show 0 + n ≤ 4194304 by omega) hz2
    omega
  clear h
  have HL : Hid (∀ W1 : World, OpS W1 (some ⟨c, 0, none⟩) n f0 f1 f2 → Calls Try.prog 37 #[.slice (some ⟨c, 0, none⟩) n cp] W1 fun e w' => e = .returned (.bool true) ∧ Below W1.heap.size W1 w') := fun W1 hW => by
    have := specProgOk_any (some ⟨c, 0, none⟩) n cp f0 f1 f2 W1 hn hW
    rw [hp] at this; exact this
  go_enter Try.func35, Try.ntmps35
  go_wp2_with fail
  refine Calls.mono (HL.out _ HA.out) ?_
  rintro e w1 ⟨rfl, hb1⟩
  have HB1 : Hid (Below W.heap.size W w1) := HB0.out.trans (hb1.mono HB0.out.size)
  have HA1 : Hid (OpS w1 (some ⟨c, 0, none⟩) n f0 f1 f2) := HA.out.below hb1
  have HG1 : Hid (w1.heap[W.heap.size]? = some (.cells #[.slice none 0 0, .slice none 0 0, .int .i64 0, .bool false, .slice none 0 0] 54)) := get_below hb1 HG.out (size_of_get HG.out)
  clear hb1
  go_wp2_with fail
  have HN : Hid (∀ W', Below w1.heap.size w1 W' → ∀ j u, (cellsL (n * 3) (allOp f0 f1 f2))[j]? = some u → W'.cell? ((⟨c, 0, none⟩ : Addr).add j) = some u) := by
    intro W' hb
    rcases HA1.out.below hb with h0 | ⟨b, off, e, hlt, hc⟩
    · omega
    · cases e; exact (rowOp_of hc).src
  go_region_law (refine step_append_grows rfl (.tmp 7) (.tmp 8) 50 rfl 146 i0 (.agg #[.int .i64 0, .int .i64 0, .int .i64 0]) 3 i0.bytes Try.underlying50 hi hz0 hz1 rfl rfl (by decide) _ 0 0 [] rfl (fun _ => ⟨rfl, rfl⟩) rfl (fun _ _ j u h => by simp at h) ⟨c, 0, none⟩ n cp (cellsL (n * 3) (allOp f0 f1 f2)) rfl (cellsL_length _ _) (HN.out _ (by repeat (first | exact Below.refl _ _ | refine Below.drew ?_ | refine Below.alloc ?_ (by simp <;> omega) _))) (oneOp f0 f1 f2 _) (by omega) (by unfold maxLen; omega) hbt ?_; intro v' w2 hown hgrow; have hBx := own_below (w0 := w1) (B := w1.heap.size) (by repeat (first | exact Below.refl _ _ | refine Below.drew ?_ | refine Below.alloc ?_ (by simp <;> omega) _)) hgrow (by simp <;> omega) (fun b e => by cases e); have hW2 := own_below (Below.refl _ _) hgrow (Nat.le_refl _) (fun b e => by cases e); obtain ⟨a', cap', rfl, hr⟩ := own_row (n := n) (size := 3) (F := allOp f0 f1 f2) (by simpa using hown); have HX : Hid _ := get_below hBx HG1.out (size_of_get HG1.out); obtain ⟨c0, c1, c2, c3, c4⟩ := cells5_of HX.out; have hRlt : W.heap.size < w2.heap.size := size_of_get HX.out; have fz : ∀ j, w2.frozen? ⟨W.heap.size, j, none⟩ = false := fun j => frozen_get HX.out; have HBx : Hid _ := hBx; have HW2 : Hid _ := hW2; have HRr : Hid _ := hr; clear hBx hW2 hr hown hgrow)
  all_goals
    clear c0 c1 c2 c3 c4 fz
    go_wp2_with fail
    have hR1 : W.heap.size < w1.heap.size := size_of_get HG1.out
    rcases HRr.out with ⟨h0, _⟩ | ⟨b, hab, hb1, hb2, hfr, hrow⟩
    · omega
    subst hab
    have hS : OpS w2 (some ⟨b, 0, none⟩) n f0 f1 f2 := .inr ⟨b, 0, rfl, hb2, of_rowOp hrow⟩
  · refine bodyPost_ret (v := .agg #[.slice (some ⟨b, 0, none⟩) n cap', .slice (some ⟨w2.heap.size, 0, none⟩) 8 8, .int .i64 0, .bool false, .slice none 0 0]) (results_cell_row Try.results35 _ _ W.heap.size 54 #[.slice (some ⟨b, 0, none⟩) n cap', .slice (some ⟨w2.heap.size, 0, none⟩) 8 8, .int .i64 0, .bool false, .slice none 0 0] (0, 0) _ rfl ?_ Try.underlying54 rfl cellsPart) rfl ⟨some ⟨b, 0, none⟩, cap', some ⟨w2.heap.size, 0, none⟩, 8, none, 0, rfl, ⟨?_, ?_, ?_⟩, ?_⟩
    · exact get_alloc (get_set (get_set (get_set (get_set (get_set (HX.out) rfl) rfl) rfl) rfl) rfl) (by simp [World.setCell]; omega)
    · exact ((((((hS).set (by omega)).set (by omega)).set (by omega)).set (by omega)).set (by omega)).alloc _
    · exact int8_at (by simp [World.setCell])
    · exact .inl rfl
    · exact (belowS (belowS (belowS (belowS (belowS (HB1.out.trans (HBx.out.mono HB1.out.size)) (Nat.le_refl _)) (Nat.le_refl _)) (Nat.le_refl _)) (Nat.le_refl _)) (Nat.le_refl _)).alloc (by simp [World.setCell]; omega) _
  · refine bodyPost_ret (v := .agg #[.slice (some ⟨b, 0, none⟩) n cap', .slice (some ⟨w1.heap.size + 1, 0, none⟩) 8 8, .int .i64 0, .bool false, .slice none 0 0]) (results_cell_row Try.results35 _ _ W.heap.size 54 #[.slice (some ⟨b, 0, none⟩) n cap', .slice (some ⟨w1.heap.size + 1, 0, none⟩) 8 8, .int .i64 0, .bool false, .slice none 0 0] (0, 0) _ rfl ?_ Try.underlying54 rfl cellsPart) rfl ⟨some ⟨b, 0, none⟩, cap', some ⟨w1.heap.size + 1, 0, none⟩, 8, none, 0, rfl, ⟨?_, ?_, ?_⟩, ?_⟩
    · exact get_set (get_set (get_set (get_set (get_set (HX.out) rfl) rfl) rfl) rfl) rfl
    · exact (((((hS).set (by omega)).set (by omega)).set (by omega)).set (by omega)).set (by omega)
    · exact (((((((int8_at (w := w1.alloc (.cells #[] 146)) (m := w1.heap.size + 1) (by simp)).below (Below.refl _ _).drew).below HW2.out).set (by omega)).set (by omega)).set (by omega)).set (by omega)).set (by omega)
    · exact .inl rfl
    · exact belowS (belowS (belowS (belowS (belowS (HB1.out.trans (HBx.out.mono HB1.out.size)) (Nat.le_refl _)) (Nat.le_refl _)) (Nat.le_refl _)) (Nat.le_refl _)) (Nat.le_refl _)
  · refine bodyPost_ret (v := .agg #[.slice (some ⟨b, 0, none⟩) n cap', .slice (some ⟨w1.heap.size, 0, none⟩) 8 8, .int .i64 0, .bool false, .slice none 0 0]) (results_cell_row Try.results35 _ _ W.heap.size 54 #[.slice (some ⟨b, 0, none⟩) n cap', .slice (some ⟨w1.heap.size, 0, none⟩) 8 8, .int .i64 0, .bool false, .slice none 0 0] (0, 0) _ rfl ?_ Try.underlying54 rfl cellsPart) rfl ⟨some ⟨b, 0, none⟩, cap', some ⟨w1.heap.size, 0, none⟩, 8, none, 0, rfl, ⟨?_, ?_, ?_⟩, ?_⟩
    · exact get_set (get_set (get_set (get_set (get_set (HX.out) rfl) rfl) rfl) rfl) rfl
    · exact (((((hS).set (by omega)).set (by omega)).set (by omega)).set (by omega)).set (by omega)
    · exact ((((((((int8_at (w := w1) (m := w1.heap.size) rfl).alloc (.cells #[] 146)).below (Below.refl _ _).drew).below HW2.out).set (by omega)).set (by omega)).set (by omega)).set (by omega)).set (by omega)
    · exact .inl rfl
    · exact belowS (belowS (belowS (belowS (belowS (HB1.out.trans (HBx.out.mono HB1.out.size)) (Nat.le_refl _)) (Nat.le_refl _)) (Nat.le_refl _)) (Nat.le_refl _)) (Nat.le_refl _)
theorem specPartNew_yes (c n : Nat) (f0 f1 f2 : Nat → Int) (W : World) (hn : n ≤ 1048576) (h : OpS W (some ⟨c, 0, none⟩) n f0 f1 f2) (hp : progB n f0 f1 f2 = true) :
    Calls Try.prog 35 #[.slice (some ⟨c, 0, none⟩) n n] W fun e w' => ∃ (a0 : Option Addr) (p0 : Nat) (a1 : Option Addr) (p1 : Nat) (a4 : Option Addr) (p4 : Nat), e = .returned (.agg #[.slice a0 n p0, .slice a1 8 p1, .int .i64 0, .bool false, .slice a4 0 p4]) ∧ (OpS w' a0 n f0 f1 f2 ∧ IntS w' a1 8 (fun _ => 0) ∧ IntS w' a4 0 (fun _ => 0)) ∧ Below W.heap.size W w' := specPartNew_yesC c n n f0 f1 f2 W hn h hp
set_option maxHeartbeats 1000000 in
theorem specPartNew_no (a : Option Addr) (cap n : Nat) (f0 f1 f2 : Nat → Int) (W : World) (hn : n ≤ 1048576) (h : OpS W a n f0 f1 f2) (hp : progB n f0 f1 f2 = false) :
    Calls Try.prog 35 #[.slice a n cap] W fun e w' => e = .returned (.agg #[.slice none 0 0, .slice none 0 0, .int .i64 0, .bool false, .slice none 0 0]) ∧ Below W.heap.size W w' := by
  have HB0 : Hid (Below W.heap.size W (W.alloc (.cells #[.slice none 0 0, .slice none 0 0, .int .i64 0, .bool false, .slice none 0 0] 54))) := (Below.refl _ _).alloc (Nat.le_refl _) _
  have HA : Hid (OpS (W.alloc (.cells #[.slice none 0 0, .slice none 0 0, .int .i64 0, .bool false, .slice none 0 0] 54)) a n f0 f1 f2) := h.alloc _
  have HG : Hid ((W.alloc (.cells #[.slice none 0 0, .slice none 0 0, .int .i64 0, .bool false, .slice none 0 0] 54)).heap[W.heap.size]? = some (.cells #[.slice none 0 0, .slice none 0 0, .int .i64 0, .bool false, .slice none 0 0] 54)) := get_new rfl
  clear h
  have HL : Hid (∀ W1 : World, OpS W1 a n f0 f1 f2 → Calls Try.prog 37 #[.slice a n cap] W1 fun e w' => e = .returned (.bool false) ∧ Below W1.heap.size W1 w') := fun W1 hW => by
    have := specProgOk_any a n cap f0 f1 f2 W1 hn hW
    rw [hp] at this; exact this
  go_enter Try.func35, Try.ntmps35
  go_wp2_with fail
  refine Calls.mono (HL.out _ HA.out) ?_
  rintro e w1 ⟨rfl, hb1⟩
  have HB1 : Hid (Below W.heap.size W w1) := HB0.out.trans (hb1.mono HB0.out.size)
  have HG1 : Hid (w1.heap[W.heap.size]? = some (.cells #[.slice none 0 0, .slice none 0 0, .int .i64 0, .bool false, .slice none 0 0] 54)) := get_below hb1 HG.out (size_of_get HG.out)
  clear hb1
  obtain ⟨c0, c1, c2, c3, c4⟩ := cells5_of HG1.out
  have fz : ∀ j, w1.frozen? ⟨W.heap.size, j, none⟩ = false := fun j => frozen_get HG1.out
  go_wp2_with fail
  refine bodyPost_ret (v := .agg #[.slice none 0 0, .slice none 0 0, .int .i64 0, .bool false, .slice none 0 0]) (results_cell_row Try.results35 _ _ W.heap.size 54 #[.slice none 0 0, .slice none 0 0, .int .i64 0, .bool false, .slice none 0 0] (0, 0) _ rfl ?_ Try.underlying54 rfl cellsPart) rfl ⟨rfl, ?_⟩
  · exact get_set (get_set (get_set (get_set (get_set (HG1.out) rfl) rfl) rfl) rfl) rfl
  · exact belowS (belowS (belowS (belowS (belowS HB1.out (Nat.le_refl _)) (Nat.le_refl _)) (Nat.le_refl _)) (Nat.le_refl _)) (Nat.le_refl _)
end Go.Proofs.Ytdbemdcfeokicaa
