/- impl.PartNew. -/
import Derived.Test.YtdbemdcfeokicaaCpOp
import Derived.Test.YtdbemdcfeokicaaCpInt
import Derived.Test.YtdbemdcfeokicaaPgW
import Derived.Test.YtdbemdcfeokicaaStPart
import Derived.Test.YtdbemdcfeokicaaPnS
import Derived.Deep.RegionWith
namespace Go.Proofs.Ytdbemdcfeokicaa
open Go.ChangeShapes Go.WideShapes Go.ChangeAt Go.RowKit
set_option linter.unusedVariables false
set_option maxRecDepth 100000 in
set_option maxHeartbeats 1000000 in
theorem implPartNew_yesC (c n cp : Nat) (f0 f1 f2 : Nat → Int) (W : World) (hn : n ≤ 1048576) (h : OpS W (some ⟨c, 0, none⟩) n f0 f1 f2) (hp : progB n f0 f1 f2 = true) :
    Calls Try.prog 33 #[.slice (some ⟨c, 0, none⟩) n cp] W fun e w' => ∃ (b p m : Nat), e = .returned (.agg #[.slice (some ⟨b, 0, none⟩) n p, .slice (some ⟨m, 0, none⟩) 8 8, .int .i64 0, .bool false, .slice none 0 0]) ∧ (OpS w' (some ⟨b, 0, none⟩) n f0 f1 f2 ∧ IntS w' (some ⟨m, 0, none⟩) 8 (fun _ => 0) ∧ W.heap.size ≤ b ∧ b < w'.heap.size ∧ W.heap.size ≤ m ∧ m < w'.heap.size ∧ b ≠ m ∧ Free w' b ∧ Free w' m) ∧ Below W.heap.size W w' := by
  have HB0 : Hid (Below W.heap.size W (W.alloc (.cells #[.slice none 0 0, .slice none 0 0, .int .i64 0, .bool false, .slice none 0 0] 54))) := (Below.refl _ _).alloc (Nat.le_refl _) _
  have HA : Hid (OpS (W.alloc (.cells #[.slice none 0 0, .slice none 0 0, .int .i64 0, .bool false, .slice none 0 0] 54)) (some ⟨c, 0, none⟩) n f0 f1 f2) := h.alloc _
  have HG : Hid ((W.alloc (.cells #[.slice none 0 0, .slice none 0 0, .int .i64 0, .bool false, .slice none 0 0] 54)).heap[W.heap.size]? = some (.cells #[.slice none 0 0, .slice none 0 0, .int .i64 0, .bool false, .slice none 0 0] 54)) := get_new rfl
  have hmk := mk8
  clear h
  have HL : Hid (∀ W1 : World, OpS W1 (some ⟨c, 0, none⟩) n f0 f1 f2 → Calls Try.prog 36 #[.slice (some ⟨c, 0, none⟩) n cp] W1 fun e w' => e = .returned (.bool true) ∧ Below W1.heap.size W1 w') := fun W1 hW => by
    have := implProgOk_any (some ⟨c, 0, none⟩) n cp f0 f1 f2 W1 hn hW
    rw [hp] at this; exact this
  go_enter Try.func33, Try.ntmps33
  go_wp2_with fail
  refine Calls.mono (HL.out _ HA.out) ?_
  rintro e w1 ⟨rfl, hb1⟩
  have HB1 : Hid (Below W.heap.size W w1) := HB0.out.trans (hb1.mono HB0.out.size)
  have HA1 : Hid (OpS w1 (some ⟨c, 0, none⟩) n f0 f1 f2) := HA.out.below hb1
  have HG1 : Hid (w1.heap[W.heap.size]? = some (.cells #[.slice none 0 0, .slice none 0 0, .int .i64 0, .bool false, .slice none 0 0] 54)) := get_below hb1 HG.out (size_of_get HG.out)
  have hR1 : W.heap.size < w1.heap.size := size_of_get HG1.out
  clear hb1
  go_wp2_with fail
  go_region_with ((go_at_call 103; refine (copiedOp_any (some ⟨c, 0, none⟩) n cp f0 f1 f2 _ (by omega) (fun e => by cases e) (HA1.out.below (by repeat (first | exact Below.refl _ _ | refine Below.drew ?_ | refine Below.alloc ?_ (by simp <;> omega) _)))).mono ?_; rintro e w2 ⟨b, cap', rfl, hb1, hb2, hcp, hS, hfr, hB⟩; have hBx : Below w1.heap.size w1 w2 := Below.trans (by repeat (first | exact Below.refl _ _ | refine Below.drew ?_ | refine Below.alloc ?_ (by simp <;> omega) _)) (hB.mono (by simp <;> omega)); have HX : Hid _ := get_below hBx HG1.out (size_of_get HG1.out); obtain ⟨c0, c1, c2, c3, c4⟩ := cells5_of HX.out; have hRlt : W.heap.size < w2.heap.size := size_of_get HX.out; have fz : ∀ j, w2.frozen? ⟨W.heap.size, j, none⟩ = false := fun j => frozen_get HX.out; have HBx : Hid _ := hBx; have HW2 : Hid _ := hB; have HS : Hid (OpS w2 (some ⟨b, 0, none⟩) n f0 f1 f2) := hS; have HFr : Hid (Free w2 b) := hfr; clear hBx hB hS hfr))
  all_goals
    clear c0 c1 c2 c3 c4 fz
    go_wp2_with fail
  · have hb1' : w1.heap.size ≤ b := by have := hb1; (try simp at this); omega
    have hHW := HW2.out.size
    have hwx : w1.heap.size ≤ w2.heap.size := HBx.out.size
    refine bodyPost_ret (v := .agg #[.slice (some ⟨b, 0, none⟩) n cap', .slice (some ⟨w2.heap.size, 0, none⟩) 8 8, .int .i64 0, .bool false, .slice none 0 0]) (results_cell_row Try.results33 _ _ W.heap.size 54 #[.slice (some ⟨b, 0, none⟩) n cap', .slice (some ⟨w2.heap.size, 0, none⟩) 8 8, .int .i64 0, .bool false, .slice none 0 0] (0, 0) _ rfl ?_ Try.underlying54 rfl cellsPart) rfl ⟨b, cap', w2.heap.size, rfl, ⟨?_, ?_, ?_, ?_, ?_, ?_, ?_, ?_, ?_⟩, ?_⟩
    · exact get_alloc (get_set (get_set (get_set (get_set (get_set (HX.out) rfl) rfl) rfl) rfl) rfl) (by simp [World.setCell]; omega)
    · exact (OpS.set (OpS.set (OpS.set (OpS.set (OpS.set HS.out (by omega)) (by omega)) (by omega)) (by omega)) (by omega)).alloc _
    · exact int8_at (by simp [World.setCell])
    · omega
    · simp [World.setCell]; omega
    · omega
    · simp [World.setCell]
    · omega
    · exact Free.below (Free.set (Free.set (Free.set (Free.set (Free.set HFr.out))))) ((Below.refl _ _).alloc (Nat.le_refl _) _) (by simp [World.setCell]; omega)
    · exact Free.of_get (get_new (by simp [World.setCell]))
    · exact (belowS (belowS (belowS (belowS (belowS (HB1.out.trans (HBx.out.mono HB1.out.size)) (Nat.le_refl _)) (Nat.le_refl _)) (Nat.le_refl _)) (Nat.le_refl _)) (Nat.le_refl _)).alloc (by simp [World.setCell]; omega) _
  · have hb1' : w1.heap.size ≤ b := by have := hb1; (try simp at this); omega
    have hHW := HW2.out.size
    have hwx : w1.heap.size ≤ w2.heap.size := HBx.out.size
    refine bodyPost_ret (v := .agg #[.slice (some ⟨b, 0, none⟩) n cap', .slice (some ⟨w1.heap.size, 0, none⟩) 8 8, .int .i64 0, .bool false, .slice none 0 0]) (results_cell_row Try.results33 _ _ W.heap.size 54 #[.slice (some ⟨b, 0, none⟩) n cap', .slice (some ⟨w1.heap.size, 0, none⟩) 8 8, .int .i64 0, .bool false, .slice none 0 0] (0, 0) _ rfl ?_ Try.underlying54 rfl cellsPart) rfl ⟨b, cap', w1.heap.size, rfl, ⟨?_, ?_, ?_, ?_, ?_, ?_, ?_, ?_, ?_⟩, ?_⟩
    · exact get_set (get_set (get_set (get_set (get_set (HX.out) rfl) rfl) rfl) rfl) rfl
    · exact OpS.set (OpS.set (OpS.set (OpS.set (OpS.set HS.out (by omega)) (by omega)) (by omega)) (by omega)) (by omega)
    · exact ((((((((int8_at (w := w1) (m := w1.heap.size) rfl).below (Below.refl _ _).drew).below HW2.out)).set (by omega)).set (by omega)).set (by omega)).set (by omega)).set (by omega)
    · omega
    · simpa [World.setCell] using hb2
    · omega
    · have hq : w1.heap.size < w2.heap.size := by simp at hHW; omega
      simpa [World.setCell] using hq
    · have := hb1; simp at this; omega
    · exact Free.set (Free.set (Free.set (Free.set (Free.set HFr.out))))
    · exact Free.set (Free.set (Free.set (Free.set (Free.set (Free.below (Free.of_get (get_newD (w := w1) rfl)) HW2.out (by simp))))))
    · exact belowS (belowS (belowS (belowS (belowS (HB1.out.trans (HBx.out.mono HB1.out.size)) (Nat.le_refl _)) (Nat.le_refl _)) (Nat.le_refl _)) (Nat.le_refl _)) (Nat.le_refl _)
theorem implPartNew_yes (c n : Nat) (f0 f1 f2 : Nat → Int) (W : World) (hn : n ≤ 1048576) (h : OpS W (some ⟨c, 0, none⟩) n f0 f1 f2) (hp : progB n f0 f1 f2 = true) :
    Calls Try.prog 33 #[.slice (some ⟨c, 0, none⟩) n n] W fun e w' => ∃ (b p m : Nat), e = .returned (.agg #[.slice (some ⟨b, 0, none⟩) n p, .slice (some ⟨m, 0, none⟩) 8 8, .int .i64 0, .bool false, .slice none 0 0]) ∧ (OpS w' (some ⟨b, 0, none⟩) n f0 f1 f2 ∧ IntS w' (some ⟨m, 0, none⟩) 8 (fun _ => 0) ∧ W.heap.size ≤ b ∧ b < w'.heap.size ∧ W.heap.size ≤ m ∧ m < w'.heap.size ∧ b ≠ m ∧ Free w' b ∧ Free w' m) ∧ Below W.heap.size W w' := implPartNew_yesC c n n f0 f1 f2 W hn h hp
set_option maxHeartbeats 1000000 in
theorem implPartNew_no (a : Option Addr) (cap n : Nat) (f0 f1 f2 : Nat → Int) (W : World) (hn : n ≤ 1048576) (h : OpS W a n f0 f1 f2) (hp : progB n f0 f1 f2 = false) :
    Calls Try.prog 33 #[.slice a n cap] W fun e w' => e = .returned (.agg #[.slice none 0 0, .slice none 0 0, .int .i64 0, .bool false, .slice none 0 0]) ∧ Below W.heap.size W w' := by
  have HB0 : Hid (Below W.heap.size W (W.alloc (.cells #[.slice none 0 0, .slice none 0 0, .int .i64 0, .bool false, .slice none 0 0] 54))) := (Below.refl _ _).alloc (Nat.le_refl _) _
  have HA : Hid (OpS (W.alloc (.cells #[.slice none 0 0, .slice none 0 0, .int .i64 0, .bool false, .slice none 0 0] 54)) a n f0 f1 f2) := h.alloc _
  have HG : Hid ((W.alloc (.cells #[.slice none 0 0, .slice none 0 0, .int .i64 0, .bool false, .slice none 0 0] 54)).heap[W.heap.size]? = some (.cells #[.slice none 0 0, .slice none 0 0, .int .i64 0, .bool false, .slice none 0 0] 54)) := get_new rfl
  clear h
  have HL : Hid (∀ W1 : World, OpS W1 a n f0 f1 f2 → Calls Try.prog 36 #[.slice a n cap] W1 fun e w' => e = .returned (.bool false) ∧ Below W1.heap.size W1 w') := fun W1 hW => by
    have := implProgOk_any a n cap f0 f1 f2 W1 hn hW
    rw [hp] at this; exact this
  go_enter Try.func33, Try.ntmps33
  go_wp2_with fail
  refine Calls.mono (HL.out _ HA.out) ?_
  rintro e w1 ⟨rfl, hb1⟩
  have HB1 : Hid (Below W.heap.size W w1) := HB0.out.trans (hb1.mono HB0.out.size)
  have HG1 : Hid (w1.heap[W.heap.size]? = some (.cells #[.slice none 0 0, .slice none 0 0, .int .i64 0, .bool false, .slice none 0 0] 54)) := get_below hb1 HG.out (size_of_get HG.out)
  clear hb1
  obtain ⟨c0, c1, c2, c3, c4⟩ := cells5_of HG1.out
  have fz : ∀ j, w1.frozen? ⟨W.heap.size, j, none⟩ = false := fun j => frozen_get HG1.out
  go_wp2_with fail
  refine bodyPost_ret (v := .agg #[.slice none 0 0, .slice none 0 0, .int .i64 0, .bool false, .slice none 0 0]) (results_cell_row Try.results33 _ _ W.heap.size 54 #[.slice none 0 0, .slice none 0 0, .int .i64 0, .bool false, .slice none 0 0] (0, 0) _ rfl ?_ Try.underlying54 rfl cellsPart) rfl ⟨rfl, ?_⟩
  · exact get_set (get_set (get_set (get_set (get_set (HG1.out) rfl) rfl) rfl) rfl) rfl
  · exact belowS (belowS (belowS (belowS (belowS HB1.out (Nat.le_refl _)) (Nat.le_refl _)) (Nat.le_refl _)) (Nat.le_refl _)) (Nat.le_refl _)
end Go.Proofs.Ytdbemdcfeokicaa
