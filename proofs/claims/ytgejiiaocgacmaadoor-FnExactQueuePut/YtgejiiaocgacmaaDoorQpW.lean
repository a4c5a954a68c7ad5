/- QueuePut, both sides; what it stands on: a line of texts, a queue's copy. -/
import Derived.Test.YtgejiiaocgacmaaDoorQoW
import Derived.Test.YtgejiiaocgacmaaDoorApS
import Derived.Test.YtgejiiaocgacmaaDoorCpString
import Derived.Test.YtgejiiaocgacmaaDoorAfString
import Derived.Test.YtgejiiaocgacmaaDoorSmQueue
namespace Go.Proofs.YtgejiiaocgacmaaDoor
open Go.ChangeShapes Go.WideShapes Go.ChangeAt Go.RowKit
set_option linter.unusedVariables false

theorem own_Txt {w : World} {b n cap : Nat} {f : Nat → ByteArray} (hz : ∀ i, i < n → (f i).size ≤ maxLen) (h : w.ownsRow b 9 1 (.slice (some ⟨b, 0, none⟩) n cap) n (cellsL n (allString f))) : Txt w (some ⟨b, 0, none⟩) n f ∧ Free w b ∧ b < w.heap.size := by
  obtain ⟨a', cap', e, hr⟩ := own_row (n := n) (size := 1) (F := allString f) (by simpa using h)
  cases e
  rcases hr with ⟨_, h0⟩ | ⟨b', e2, hb1, hb2, hfr, hrow⟩
  · cases h0
  · cases e2
    exact ⟨⟨hz, .inr ⟨b, 0, rfl, hb2, of_rowString (by simpa using hrow)⟩⟩, hfr, hb2⟩
theorem cellsLineS : (Tryd.prog.info? 114).map (·.size) = some 1 := by kernel_rfl
set_option maxRecDepth 100000 in
set_option maxHeartbeats 2000000 in
theorem newLineS_own (a : Option Addr) (n cap : Nat) (f : Nat → ByteArray) (w : World) (hn : n ≤ 4194304) (ha : a = none → n = 0 ∧ cap = 0) (h : Txt w a n f) :
    Calls Tryd.prog 79 #[.slice a n cap] w fun e w' => ∃ b cap', e = .returned (.agg #[.slice (some ⟨b, 0, none⟩) n cap']) ∧ w.heap.size ≤ b ∧ w'.ownsRow b 9 1 (.slice (some ⟨b, 0, none⟩) n cap') n (cellsL n (allString f)) ∧ Below w.heap.size w w' := by
  have HT : Hid (Txt (w.alloc (.cells #[.slice none 0 0] 114)) a n f) := h.alloc _
  have HB0 : Hid (Below w.heap.size w (w.alloc (.cells #[.slice none 0 0] 114))) := (Below.refl _ _).alloc (Nat.le_refl _) _
  have HR0 : Hid ((w.alloc (.cells #[.slice none 0 0] 114)).heap[w.heap.size]? = some (.cells #[.slice none 0 0] 114)) := get_new rfl
  clear h
  go_enter Tryd.func79, Tryd.ntmps79
  go_wp2_with fail
  refine (copiedString_own a n cap f _ hn ha HT.out).mono ?_
  rintro e w1 ⟨b, cap', rfl, hb1, hb2, hown, hB⟩
  have hlo : w.heap.size < b := by simp at hb1; omega
  have HR1 : Hid (w1.heap[w.heap.size]? = some (.cells #[.slice none 0 0] 114)) := get_below hB HR0.out (size_of_get HR0.out)
  have HB1 : Hid (Below w.heap.size w w1) := HB0.out.trans (hB.mono HB0.out.size)
  have HO : Hid _ := hown
  clear hB hown
  have k0 : w1.cell? ⟨w.heap.size, 0, none⟩ = some (.slice none 0 0) := cell_get HR1.out rfl
  have fr : ∀ j, w1.frozen? ⟨w.heap.size, j, none⟩ = false := fun j => frozen_get HR1.out
  have hz : w.heap.size < w1.heap.size := size_of_get HR1.out
  go_wp2_with fail
  refine bodyPost_ret (v := .agg #[.slice (some ⟨b, 0, none⟩) n cap']) (results_cell_row Tryd.results79 _ _ (w.heap.size) 114 #[.slice (some ⟨b, 0, none⟩) n cap'] (0, 0) _ rfl ?_ Tryd.underlying114 rfl cellsLineS) rfl ⟨b, cap', rfl, by omega, ?_, ?_⟩
  · exact get_set HR1.out rfl
  · exact own_set_ne HO.out (by omega)
  · exact belowS HB1.out (by omega)
set_option maxRecDepth 100000 in
set_option maxHeartbeats 2000000 in
theorem l12Copy_own (a0 : Option Addr) (n0 p0 : Nat) (g0 : Nat → ByteArray) (v1 : Int) (w : World) (hn : n0 ≤ 1048576) (ha : a0 = none → n0 = 0 ∧ p0 = 0) (h0 : Txt w a0 n0 g0) :
    Calls Tryd.prog 78 #[.agg #[.slice a0 n0 p0, .int .i64 v1]] w fun e w' => ∃ b cap', e = .returned (.agg #[.slice (some ⟨b, 0, none⟩) n0 cap', .int .i64 v1]) ∧ w.heap.size ≤ b ∧ w'.ownsRow b 9 1 (.slice (some ⟨b, 0, none⟩) n0 cap') n0 (cellsL n0 (allString g0)) ∧ Below w.heap.size w w' := by
  have HB0 : Hid (Below w.heap.size w ((w.alloc (.cells #[.slice a0 n0 p0, .int .i64 v1] 45)).alloc (.cells #[.slice none 0 0, .int .i64 0] 45))) := ((Below.refl _ _).alloc (Nat.le_refl _) _).alloc (by simp) _
  have hW1 : Below w.heap.size w (((w.alloc (.cells #[.slice a0 n0 p0, .int .i64 v1] 45)).alloc (.cells #[.slice none 0 0, .int .i64 0] 45)).alloc (.cells #[] 9)) := HB0.out.alloc HB0.out.size _
  obtain ⟨b, cap', w1, hrun, hor, hb1, hown, hB⟩ := append_freshString (((w.alloc (.cells #[.slice a0 n0 p0, .int .i64 v1] 45)).alloc (.cells #[.slice none 0 0, .int .i64 0] 45)).alloc (.cells #[] 9)) (w.heap.size + 2) (get_new (by simp)) a0 n0 p0 g0 (by omega) ha (h0.below hW1)
  have hlo : w.heap.size + 2 ≤ b := by rcases hor with e | e; omega; simp at e; omega
  have HP1 : Hid (w1.heap[w.heap.size]? = some (.cells #[.slice a0 n0 p0, .int .i64 v1] 45)) := get_below hB (get_alloc (get_alloc (get_new rfl) (by simp)) (by simp; omega)) (by simp; omega)
  have HR1 : Hid (w1.heap[w.heap.size + 1]? = some (.cells #[.slice none 0 0, .int .i64 0] 45)) := get_below hB (get_alloc (get_new (by simp)) (by simp)) (by simp <;> omega)
  have HB1 : Hid (Below w.heap.size w w1) := hW1.trans (hB.mono (by simp; omega))
  have HO : Hid _ := hown
  have HRUN : Hid _ := hrun
  clear hown hrun hB hW1 h0 ha
  obtain ⟨k0, k1⟩ := cells2_of HP1.out
  obtain ⟨r0, r1⟩ := cells2_of HR1.out
  have fp : ∀ j, w1.frozen? ⟨w.heap.size, j, none⟩ = false := fun j => frozen_get HP1.out
  have fr : ∀ j, w1.frozen? ⟨w.heap.size + 1, j, none⟩ = false := fun j => frozen_get HR1.out
  have hz : w.heap.size + 1 < w1.heap.size := size_of_get HR1.out
  go_enter Tryd.func78, Tryd.ntmps78
  go_wp2_with (at_builtin; refine wpList_plain rfl (fun K hK => wp_append (.tmp 3) (.tmp 5) 34 rfl rfl rfl HRUN.out (hK _ _ ?_)))
  refine bodyPost_ret (v := .agg #[.slice (some ⟨b, 0, none⟩) n0 cap', .int .i64 v1]) (results_cell_row Tryd.results78 _ _ (w.heap.size + 1) 45 #[.slice (some ⟨b, 0, none⟩) n0 cap', .int .i64 v1] (0, 0) _ rfl ?_ Tryd.underlying45 rfl cellsQueue) rfl ⟨b, cap', rfl, by omega, ?_, ?_⟩
  · exact get_set (get_set (get_set_ne HR1.out (by omega)) rfl) rfl
  · exact own_set_ne (own_set_ne (own_set_ne HO.out (by omega)) (by omega)) (by omega)
  · exact belowS (belowS (belowS HB1.out (by omega)) (by omega)) (by omega)
set_option maxRecDepth 100000 in
set_option maxHeartbeats 2000000 in
theorem specQueuePut_no (a0 : Option Addr) (n0 p0 : Nat) (g0 : Nat → ByteArray) (v1 : Int) (t : ByteArray) (w : World) (hm : n0 ≤ 1048576) (hs : ∀ i, i < n0 → (g0 i).size ≤ 1048576) (hts : t.size ≤ 1048576) (ha : a0 = none → n0 = 0 ∧ p0 = 0) (h0 : Txt w a0 n0 g0) (hp : quB n0 g0 v1 = false) :
    Calls Tryd.prog 32 #[.agg #[.slice a0 n0 p0, .int .i64 v1], .string t] w fun e w' => e = .returned (.tuple #[.agg #[.slice none 0 0, .int .i64 0], .bool false]) ∧ Below w.heap.size w w' := by
  have HT0 : Hid (Txt ((w.alloc (.cells #[.slice a0 n0 p0, .int .i64 v1] 45)).alloc (.cells #[.slice none 0 0, .int .i64 0] 45)) a0 n0 g0) := (h0.alloc _).alloc _
  have HB0 : Hid (Below w.heap.size w ((w.alloc (.cells #[.slice a0 n0 p0, .int .i64 v1] 45)).alloc (.cells #[.slice none 0 0, .int .i64 0] 45))) := ((Below.refl _ _).alloc (Nat.le_refl _) _).alloc (by simp) _
  have HP0 : Hid (((w.alloc (.cells #[.slice a0 n0 p0, .int .i64 v1] 45)).alloc (.cells #[.slice none 0 0, .int .i64 0] 45)).heap[w.heap.size]? = some (.cells #[.slice a0 n0 p0, .int .i64 v1] 45)) := get_alloc (get_new rfl) (by simp)
  have HR0 : Hid (((w.alloc (.cells #[.slice a0 n0 p0, .int .i64 v1] 45)).alloc (.cells #[.slice none 0 0, .int .i64 0] 45)).heap[w.heap.size + 1]? = some (.cells #[.slice none 0 0, .int .i64 0] 45)) := get_new (by simp)
  have HL : Hid (∀ W : World, Txt W a0 n0 g0 → Calls Tryd.prog 28 #[.agg #[.slice a0 n0 p0, .int .i64 v1]] W fun e w' => e = .returned (.bool false) ∧ Below W.heap.size W w') := fun W h => by
    have := specQueueOk_any a0 n0 p0 g0 v1 W hm hs h
    rw [hp] at this; exact this
  have HN : Hid _ := ha
  clear h0 ha hp
  go_enter Tryd.func32, Tryd.ntmps32
  go_wp2_with fail
  refine Calls.mono (HL.out _ HT0.out) ?_
  rintro e w1 ⟨rfl, hb1⟩
  have HB1 : Hid (Below w.heap.size w w1) := HB0.out.trans (hb1.mono HB0.out.size)
  have HT1 : Hid (Txt w1 a0 n0 g0) := HT0.out.below hb1
  have HP1 : Hid (w1.heap[w.heap.size]? = some (.cells #[.slice a0 n0 p0, .int .i64 v1] 45)) := get_below hb1 HP0.out (size_of_get HP0.out)
  have HR1 : Hid (w1.heap[w.heap.size + 1]? = some (.cells #[.slice none 0 0, .int .i64 0] 45)) := get_below hb1 HR0.out (size_of_get HR0.out)
  have hz1 : w.heap.size + 1 < w1.heap.size := size_of_get HR1.out
  clear hb1
  obtain ⟨r0, r1⟩ := cells2_of HR1.out
  have fr : ∀ j, w1.frozen? ⟨w.heap.size + 1, j, none⟩ = false := fun j => frozen_get HR1.out
  go_wp2_with fail
  refine bodyPost_ret (v := .tuple #[.agg #[.slice none 0 0, .int .i64 0], .bool false]) (results_row_tmp Tryd.results32 _ _ (w.heap.size + 1) 45 #[.slice none 0 0, .int .i64 0] (0, 0) _ rfl ?_ Tryd.underlying45 rfl cellsQueue _ rfl) rfl ⟨rfl, ?_⟩
  · exact get_set (get_set HR1.out rfl) rfl
  · exact belowS (belowS HB1.out (by omega)) (by omega)
set_option maxRecDepth 100000 in
set_option maxHeartbeats 4000000 in
theorem specQueuePut_full (a0 : Option Addr) (n0 p0 : Nat) (g0 : Nat → ByteArray) (v1 : Int) (t : ByteArray) (w : World) (hm : n0 ≤ 1048576) (hs : ∀ i, i < n0 → (g0 i).size ≤ 1048576) (hts : t.size ≤ 1048576) (ha : a0 = none → n0 = 0 ∧ p0 = 0) (h0 : Txt w a0 n0 g0) (hp : quB n0 g0 v1 = true) (hv : jpB t = false ∨ (jpB t = true ∧ 8 ≤ (n0 : Int))) :
    Calls Tryd.prog 32 #[.agg #[.slice a0 n0 p0, .int .i64 v1], .string t] w fun e w' => ∃ b c, e = .returned (.tuple #[.agg #[.slice (some ⟨b, 0, none⟩) n0 c, .int .i64 v1], .bool false]) ∧ w.heap.size ≤ b ∧ w'.ownsRow b 9 1 (.slice (some ⟨b, 0, none⟩) n0 c) n0 (cellsL n0 (allString g0)) ∧ Below w.heap.size w w' := by
  have HV : Hid _ := hv
  clear hv
  have HT0 : Hid (Txt ((w.alloc (.cells #[.slice a0 n0 p0, .int .i64 v1] 45)).alloc (.cells #[.slice none 0 0, .int .i64 0] 45)) a0 n0 g0) := (h0.alloc _).alloc _
  have HB0 : Hid (Below w.heap.size w ((w.alloc (.cells #[.slice a0 n0 p0, .int .i64 v1] 45)).alloc (.cells #[.slice none 0 0, .int .i64 0] 45))) := ((Below.refl _ _).alloc (Nat.le_refl _) _).alloc (by simp) _
  have HP0 : Hid (((w.alloc (.cells #[.slice a0 n0 p0, .int .i64 v1] 45)).alloc (.cells #[.slice none 0 0, .int .i64 0] 45)).heap[w.heap.size]? = some (.cells #[.slice a0 n0 p0, .int .i64 v1] 45)) := get_alloc (get_new rfl) (by simp)
  have HR0 : Hid (((w.alloc (.cells #[.slice a0 n0 p0, .int .i64 v1] 45)).alloc (.cells #[.slice none 0 0, .int .i64 0] 45)).heap[w.heap.size + 1]? = some (.cells #[.slice none 0 0, .int .i64 0] 45)) := get_new (by simp)
  have HL : Hid (∀ W : World, Txt W a0 n0 g0 → Calls Tryd.prog 28 #[.agg #[.slice a0 n0 p0, .int .i64 v1]] W fun e w' => e = .returned (.bool true) ∧ Below W.heap.size W w') := fun W h => by
    have := specQueueOk_any a0 n0 p0 g0 v1 W hm hs h
    rw [hp] at this; exact this
  have HN : Hid _ := ha
  clear h0 ha hp
  go_enter Tryd.func32, Tryd.ntmps32
  go_wp2_with fail
  refine Calls.mono (HL.out _ HT0.out) ?_
  rintro e w1 ⟨rfl, hb1⟩
  have HB1 : Hid (Below w.heap.size w w1) := HB0.out.trans (hb1.mono HB0.out.size)
  have HT1 : Hid (Txt w1 a0 n0 g0) := HT0.out.below hb1
  have HP1 : Hid (w1.heap[w.heap.size]? = some (.cells #[.slice a0 n0 p0, .int .i64 v1] 45)) := get_below hb1 HP0.out (size_of_get HP0.out)
  have HR1 : Hid (w1.heap[w.heap.size + 1]? = some (.cells #[.slice none 0 0, .int .i64 0] 45)) := get_below hb1 HR0.out (size_of_get HR0.out)
  have hz1 : w.heap.size + 1 < w1.heap.size := size_of_get HR1.out
  clear hb1
  obtain ⟨k0, k1⟩ := cells2_of HP1.out
  have hzp : w.heap.size < w1.heap.size := size_of_get HP1.out
  go_wp2_with fail
  clear k0 k1
  refine (l12Copy_own a0 n0 p0 g0 v1 _ hm HN.out HT1.out).mono ?_
  rintro e w2 ⟨b, c, rfl, hlo, hown, hb2⟩
  have hlt := own_lt hown
  have HB2 : Hid (Below w.heap.size w w2) := HB1.out.trans (hb2.mono HB1.out.size)
  have HP2 : Hid (w2.heap[w.heap.size]? = some (.cells #[.slice a0 n0 p0, .int .i64 v1] 45)) := get_below hb2 HP1.out (size_of_get HP1.out)
  have HR2 : Hid (w2.heap[w.heap.size + 1]? = some (.cells #[.slice none 0 0, .int .i64 0] 45)) := get_below hb2 HR1.out (size_of_get HR1.out)
  have hs2 : w1.heap.size ≤ w2.heap.size := hb2.size
  have HS3 : Hid _ := own_kept hown ((Below.refl _ _).alloc (Nat.le_refl _) (.cells #[.slice (some ⟨b, 0, none⟩) n0 c, .int .i64 v1] 45))
  have HB3 : Hid (Below w.heap.size w (w2.alloc (.cells #[.slice (some ⟨b, 0, none⟩) n0 c, .int .i64 v1] 45))) := HB2.out.alloc HB2.out.size _
  have HP3 : Hid ((w2.alloc (.cells #[.slice (some ⟨b, 0, none⟩) n0 c, .int .i64 v1] 45)).heap[w.heap.size]? = some (.cells #[.slice a0 n0 p0, .int .i64 v1] 45)) := get_alloc HP2.out (by omega)
  have HR3 : Hid ((w2.alloc (.cells #[.slice (some ⟨b, 0, none⟩) n0 c, .int .i64 v1] 45)).heap[w.heap.size + 1]? = some (.cells #[.slice none 0 0, .int .i64 0] 45)) := get_alloc HR2.out (by omega)
  have HY3 : Hid ((w2.alloc (.cells #[.slice (some ⟨b, 0, none⟩) n0 c, .int .i64 v1] 45)).heap[w2.heap.size]? = some (.cells #[.slice (some ⟨b, 0, none⟩) n0 c, .int .i64 v1] 45)) := get_new rfl
  have hz3 : w2.heap.size < (w2.alloc (.cells #[.slice (some ⟨b, 0, none⟩) n0 c, .int .i64 v1] 45)).heap.size := by simp
  clear hb2 hown
  go_wp2_with fail
  generalize (w2.alloc (.cells #[.slice (some ⟨b, 0, none⟩) n0 c, .int .i64 v1] 45)) = w3 at *
  refine (specJust_any t _ hts).mono ?_
  rintro e w4 ⟨rfl, hb4⟩
  have HS4 : Hid _ := own_kept HS3.out hb4
  have HB4 : Hid (Below w.heap.size w w4) := HB3.out.trans (hb4.mono HB3.out.size)
  have HP4 : Hid (w4.heap[w.heap.size]? = some (.cells #[.slice a0 n0 p0, .int .i64 v1] 45)) := get_below hb4 HP3.out (size_of_get HP3.out)
  have HR4 : Hid (w4.heap[w.heap.size + 1]? = some (.cells #[.slice none 0 0, .int .i64 0] 45)) := get_below hb4 HR3.out (size_of_get HR3.out)
  have HY4 : Hid (w4.heap[w2.heap.size]? = some (.cells #[.slice (some ⟨b, 0, none⟩) n0 c, .int .i64 v1] 45)) := get_below hb4 HY3.out (size_of_get HY3.out)
  have hz4 : w2.heap.size < w4.heap.size := size_of_get HY4.out
  clear hb4
  obtain ⟨k0, k1⟩ := cells2_of HP4.out
  obtain ⟨y0, y1⟩ := cells2_of HY4.out
  rcases HV.out with hv | ⟨hv, h8⟩
  · rw [hv]
    obtain ⟨q0, q1⟩ := cells2_of HR4.out
    have fr : ∀ j, w4.frozen? ⟨w.heap.size + 1, j, none⟩ = false := fun j => frozen_get HR4.out
    go_wp2_with fail
    refine bodyPost_ret (v := .tuple #[.agg #[.slice (some ⟨b, 0, none⟩) n0 c, .int .i64 v1], .bool false]) (results_row_tmp Tryd.results32 _ _ (w.heap.size + 1) 45 #[.slice (some ⟨b, 0, none⟩) n0 c, .int .i64 v1] (0, 0) _ rfl ?_ Tryd.underlying45 rfl cellsQueue _ rfl) rfl ⟨b, c, rfl, by omega, ?_, ?_⟩
    · exact get_set (get_set HR4.out rfl) rfl
    · exact own_set_ne (own_set_ne HS4.out (by omega)) (by omega)
    · exact belowS (belowS HB4.out (by omega)) (by omega)
  · rw [hv]
    obtain ⟨q0, q1⟩ := cells2_of HR4.out
    have fr : ∀ j, w4.frozen? ⟨w.heap.size + 1, j, none⟩ = false := fun j => frozen_get HR4.out
    go_wp2_with fail
    refine bodyPost_ret (v := .tuple #[.agg #[.slice (some ⟨b, 0, none⟩) n0 c, .int .i64 v1], .bool false]) (results_row_tmp Tryd.results32 _ _ (w.heap.size + 1) 45 #[.slice (some ⟨b, 0, none⟩) n0 c, .int .i64 v1] (0, 0) _ rfl ?_ Tryd.underlying45 rfl cellsQueue _ rfl) rfl ⟨b, c, rfl, by omega, ?_, ?_⟩
    · exact get_set (get_set HR4.out rfl) rfl
    · exact own_set_ne (own_set_ne HS4.out (by omega)) (by omega)
    · exact belowS (belowS HB4.out (by omega)) (by omega)
set_option maxRecDepth 100000 in
set_option maxHeartbeats 4000000 in
theorem specQueuePut_yes (a0 : Option Addr) (n0 p0 : Nat) (g0 : Nat → ByteArray) (v1 : Int) (t : ByteArray) (w : World) (hm : n0 ≤ 1048576) (hs : ∀ i, i < n0 → (g0 i).size ≤ 1048576) (hts : t.size ≤ 1048576) (ha : a0 = none → n0 = 0 ∧ p0 = 0) (h0 : Txt w a0 n0 g0) (hp : quB n0 g0 v1 = true) (hv : jpB t = true) (h8 : (n0 : Int) < 8) :
    Calls Tryd.prog 32 #[.agg #[.slice a0 n0 p0, .int .i64 v1], .string t] w fun e w' => ∃ b c, e = .returned (.tuple #[.agg #[.slice (some ⟨b, 0, none⟩) (n0 + 1) c, .int .i64 v1], .bool true]) ∧ w.heap.size ≤ b ∧ w'.ownsRow b 9 1 (.slice (some ⟨b, 0, none⟩) (n0 + 1) c) (n0 + 1) (cellsL ((n0 + 1)) (allString (snocS n0 g0 t))) ∧ Below w.heap.size w w' := by
  have HV : Hid _ := hv
  clear hv
  have HT0 : Hid (Txt ((w.alloc (.cells #[.slice a0 n0 p0, .int .i64 v1] 45)).alloc (.cells #[.slice none 0 0, .int .i64 0] 45)) a0 n0 g0) := (h0.alloc _).alloc _
  have HB0 : Hid (Below w.heap.size w ((w.alloc (.cells #[.slice a0 n0 p0, .int .i64 v1] 45)).alloc (.cells #[.slice none 0 0, .int .i64 0] 45))) := ((Below.refl _ _).alloc (Nat.le_refl _) _).alloc (by simp) _
  have HP0 : Hid (((w.alloc (.cells #[.slice a0 n0 p0, .int .i64 v1] 45)).alloc (.cells #[.slice none 0 0, .int .i64 0] 45)).heap[w.heap.size]? = some (.cells #[.slice a0 n0 p0, .int .i64 v1] 45)) := get_alloc (get_new rfl) (by simp)
  have HR0 : Hid (((w.alloc (.cells #[.slice a0 n0 p0, .int .i64 v1] 45)).alloc (.cells #[.slice none 0 0, .int .i64 0] 45)).heap[w.heap.size + 1]? = some (.cells #[.slice none 0 0, .int .i64 0] 45)) := get_new (by simp)
  have HL : Hid (∀ W : World, Txt W a0 n0 g0 → Calls Tryd.prog 28 #[.agg #[.slice a0 n0 p0, .int .i64 v1]] W fun e w' => e = .returned (.bool true) ∧ Below W.heap.size W w') := fun W h => by
    have := specQueueOk_any a0 n0 p0 g0 v1 W hm hs h
    rw [hp] at this; exact this
  have HN : Hid _ := ha
  clear h0 ha hp
  go_enter Tryd.func32, Tryd.ntmps32
  go_wp2_with fail
  refine Calls.mono (HL.out _ HT0.out) ?_
  rintro e w1 ⟨rfl, hb1⟩
  have HB1 : Hid (Below w.heap.size w w1) := HB0.out.trans (hb1.mono HB0.out.size)
  have HT1 : Hid (Txt w1 a0 n0 g0) := HT0.out.below hb1
  have HP1 : Hid (w1.heap[w.heap.size]? = some (.cells #[.slice a0 n0 p0, .int .i64 v1] 45)) := get_below hb1 HP0.out (size_of_get HP0.out)
  have HR1 : Hid (w1.heap[w.heap.size + 1]? = some (.cells #[.slice none 0 0, .int .i64 0] 45)) := get_below hb1 HR0.out (size_of_get HR0.out)
  have hz1 : w.heap.size + 1 < w1.heap.size := size_of_get HR1.out
  clear hb1
  obtain ⟨k0, k1⟩ := cells2_of HP1.out
  have hzp : w.heap.size < w1.heap.size := size_of_get HP1.out
  go_wp2_with fail
  clear k0 k1
  refine (l12Copy_own a0 n0 p0 g0 v1 _ hm HN.out HT1.out).mono ?_
  rintro e w2 ⟨b, c, rfl, hlo, hown, hb2⟩
  have hlt := own_lt hown
  have HB2 : Hid (Below w.heap.size w w2) := HB1.out.trans (hb2.mono HB1.out.size)
  have HP2 : Hid (w2.heap[w.heap.size]? = some (.cells #[.slice a0 n0 p0, .int .i64 v1] 45)) := get_below hb2 HP1.out (size_of_get HP1.out)
  have HR2 : Hid (w2.heap[w.heap.size + 1]? = some (.cells #[.slice none 0 0, .int .i64 0] 45)) := get_below hb2 HR1.out (size_of_get HR1.out)
  have hs2 : w1.heap.size ≤ w2.heap.size := hb2.size
  have HS3 : Hid _ := own_kept hown ((Below.refl _ _).alloc (Nat.le_refl _) (.cells #[.slice (some ⟨b, 0, none⟩) n0 c, .int .i64 v1] 45))
  have HB3 : Hid (Below w.heap.size w (w2.alloc (.cells #[.slice (some ⟨b, 0, none⟩) n0 c, .int .i64 v1] 45))) := HB2.out.alloc HB2.out.size _
  have HP3 : Hid ((w2.alloc (.cells #[.slice (some ⟨b, 0, none⟩) n0 c, .int .i64 v1] 45)).heap[w.heap.size]? = some (.cells #[.slice a0 n0 p0, .int .i64 v1] 45)) := get_alloc HP2.out (by omega)
  have HR3 : Hid ((w2.alloc (.cells #[.slice (some ⟨b, 0, none⟩) n0 c, .int .i64 v1] 45)).heap[w.heap.size + 1]? = some (.cells #[.slice none 0 0, .int .i64 0] 45)) := get_alloc HR2.out (by omega)
  have HY3 : Hid ((w2.alloc (.cells #[.slice (some ⟨b, 0, none⟩) n0 c, .int .i64 v1] 45)).heap[w2.heap.size]? = some (.cells #[.slice (some ⟨b, 0, none⟩) n0 c, .int .i64 v1] 45)) := get_new rfl
  have hz3 : w2.heap.size < (w2.alloc (.cells #[.slice (some ⟨b, 0, none⟩) n0 c, .int .i64 v1] 45)).heap.size := by simp
  clear hb2 hown
  go_wp2_with fail
  generalize (w2.alloc (.cells #[.slice (some ⟨b, 0, none⟩) n0 c, .int .i64 v1] 45)) = w3 at *
  refine (specJust_any t _ hts).mono ?_
  rintro e w4 ⟨rfl, hb4⟩
  have HS4 : Hid _ := own_kept HS3.out hb4
  have HB4 : Hid (Below w.heap.size w w4) := HB3.out.trans (hb4.mono HB3.out.size)
  have HP4 : Hid (w4.heap[w.heap.size]? = some (.cells #[.slice a0 n0 p0, .int .i64 v1] 45)) := get_below hb4 HP3.out (size_of_get HP3.out)
  have HR4 : Hid (w4.heap[w.heap.size + 1]? = some (.cells #[.slice none 0 0, .int .i64 0] 45)) := get_below hb4 HR3.out (size_of_get HR3.out)
  have HY4 : Hid (w4.heap[w2.heap.size]? = some (.cells #[.slice (some ⟨b, 0, none⟩) n0 c, .int .i64 v1] 45)) := get_below hb4 HY3.out (size_of_get HY3.out)
  have hz4 : w2.heap.size < w4.heap.size := size_of_get HY4.out
  clear hb4
  obtain ⟨k0, k1⟩ := cells2_of HP4.out
  obtain ⟨y0, y1⟩ := cells2_of HY4.out
  rw [HV.out]
  have h9 : ¬ 8 ≤ (n0 : Int) := by omega
  have HV5 : Hid _ := own_kept HS4.out ((Below.refl _ _).alloc (Nat.le_refl _) (.cells #[.string t] 9))
  obtain ⟨b5, c5, w5, hrun, hor, hb5, hS5, hoff⟩ := append_oneString (w4.alloc (.cells #[.string t] 9)) b n0 c g0 t w4.heap.size (by omega) HV5.out (cell_get (get_new rfl) rfl)
  have hsz5 : w4.heap.size + 1 ≤ w5.heap.size := by have := hoff.size; simp at this; omega
  have hor : b5 = b ∨ w4.heap.size < b5 := by rcases hor with e | e; exact .inl e; exact .inr (by simp at e; omega)
  have HB5 : Hid (Below w.heap.size w w5) := Off.below (HB4.out.alloc HB4.out.size _) hoff (by have := HB4.out.size; simp; omega) (by simp; omega)
  have HP5 : Hid (w5.heap[w.heap.size]? = some (.cells #[.slice a0 n0 p0, .int .i64 v1] 45)) := hoff.get (get_alloc HP4.out (by omega)) (by simp; omega)
  have HR5 : Hid (w5.heap[w.heap.size + 1]? = some (.cells #[.slice none 0 0, .int .i64 0] 45)) := hoff.get (get_alloc HR4.out (by omega)) (by simp; omega)
  have HY5 : Hid (w5.heap[w2.heap.size]? = some (.cells #[.slice (some ⟨b, 0, none⟩) n0 c, .int .i64 v1] 45)) := hoff.get (get_alloc HY4.out (by omega)) (by simp; omega)
  have HS5 : Hid _ := hS5
  have HRUN : Hid _ := hrun
  clear hoff hS5 hrun
  obtain ⟨q0, q1⟩ := cells2_of HR5.out
  obtain ⟨kk0, kk1⟩ := cells2_of HP5.out
  obtain ⟨z0, z1⟩ := cells2_of HY5.out
  have fr : ∀ j, w5.frozen? ⟨w.heap.size + 1, j, none⟩ = false := fun j => frozen_get HR5.out
  have fy : ∀ j, w5.frozen? ⟨w2.heap.size, j, none⟩ = false := fun j => frozen_get HY5.out
  go_wp2_with (at_builtin; refine wpList_plain rfl (fun K hK => wp_append (.tmp 24) (.tmp 26) 34 rfl rfl rfl HRUN.out (hK _ _ ?_)))
  refine bodyPost_ret (v := .tuple #[.agg #[.slice (some ⟨b5, 0, none⟩) (n0 + 1) c5, .int .i64 v1], .bool true]) (results_row_tmp Tryd.results32 _ _ (w.heap.size + 1) 45 #[.slice (some ⟨b5, 0, none⟩) (n0 + 1) c5, .int .i64 v1] (0, 0) _ rfl ?_ Tryd.underlying45 rfl cellsQueue _ rfl) rfl ⟨b5, c5, rfl, by omega, ?_, ?_⟩
  · exact get_set (get_set (get_set_ne HR5.out (by omega)) rfl) rfl
  · exact own_set_ne (own_set_ne (own_set_ne HS5.out (by omega)) (by omega)) (by omega)
  · exact belowS (belowS (belowS HB5.out (by omega)) (by omega)) (by omega)
set_option maxRecDepth 100000 in
set_option maxHeartbeats 2000000 in
theorem pushS_run (g b n c b5 c5 : Nat) (t : ByteArray) (w w5 : World) (hy : w.cell? ⟨g, 0, none⟩ = some (.slice (some ⟨b, 0, none⟩) n c)) (hg : g < w.heap.size)
    (hrun : (Builtin.append_ #[34, 34] 34 #[.slice (some ⟨b, 0, none⟩) n c, .slice (some ⟨w.heap.size, 0, none⟩) 1 1]).run Tryd.prog (w.alloc (.cells #[.string t] 9)) = .ok (.slice (some ⟨b5, 0, none⟩) (n + 1) c5) w5)
    (fy : ∀ j, w5.frozen? ⟨g, j, none⟩ = false) (z0 : w5.cell? ⟨g, 0, none⟩ = some (.slice (some ⟨b, 0, none⟩) n c)) :
    Calls Tryd.prog 80 #[.pointer (some ⟨g, 0, none⟩), .string t] w fun e w' => e = .returned (.tuple #[]) ∧ w' = w5.setCell ⟨g, 0, none⟩ (.slice (some ⟨b5, 0, none⟩) (n + 1) c5) := by
  have HRUN : Hid _ := hrun
  clear hrun
  go_enter Tryd.func80, Tryd.ntmps80
  go_wp2_with (at_builtin; refine wpList_plain rfl (fun K hK => wp_append (.tmp 8) (.tmp 10) 34 rfl rfl rfl HRUN.out (hK _ _ ?_)))
  go_end0
  exact ⟨rfl, rfl⟩
set_option maxRecDepth 100000 in
set_option maxHeartbeats 2000000 in
theorem implQueuePut_no (a0 : Option Addr) (n0 p0 : Nat) (g0 : Nat → ByteArray) (v1 : Int) (t : ByteArray) (w : World) (hm : n0 ≤ 1048576) (hs : ∀ i, i < n0 → (g0 i).size ≤ 1048576) (hts : t.size ≤ 1048576) (ha : a0 = none → n0 = 0 ∧ p0 = 0) (h0 : Txt w a0 n0 g0) (he : Eof w) (hp : quB n0 g0 v1 = false) :
    Calls Tryd.prog 33 #[.agg #[.slice a0 n0 p0, .int .i64 v1], .string t] w fun e w' => e = .returned (.tuple #[.agg #[.slice none 0 0, .int .i64 0], .bool false]) ∧ Below w.heap.size w w' := by
  have HT0 : Hid (Txt ((w.alloc (.cells #[.slice a0 n0 p0, .int .i64 v1] 45)).alloc (.cells #[.slice none 0 0, .int .i64 0] 45)) a0 n0 g0) := (h0.alloc _).alloc _
  have HB0 : Hid (Below w.heap.size w ((w.alloc (.cells #[.slice a0 n0 p0, .int .i64 v1] 45)).alloc (.cells #[.slice none 0 0, .int .i64 0] 45))) := ((Below.refl _ _).alloc (Nat.le_refl _) _).alloc (by simp) _
  have HP0 : Hid (((w.alloc (.cells #[.slice a0 n0 p0, .int .i64 v1] 45)).alloc (.cells #[.slice none 0 0, .int .i64 0] 45)).heap[w.heap.size]? = some (.cells #[.slice a0 n0 p0, .int .i64 v1] 45)) := get_alloc (get_new rfl) (by simp)
  have HR0 : Hid (((w.alloc (.cells #[.slice a0 n0 p0, .int .i64 v1] 45)).alloc (.cells #[.slice none 0 0, .int .i64 0] 45)).heap[w.heap.size + 1]? = some (.cells #[.slice none 0 0, .int .i64 0] 45)) := get_new (by simp)
  have HL : Hid (∀ W : World, Txt W a0 n0 g0 → Eof W → Calls Tryd.prog 30 #[.agg #[.slice a0 n0 p0, .int .i64 v1]] W fun e w' => e = .returned (.bool false) ∧ Below W.heap.size W w') := fun W h he => by
    have := implQueueOk_any a0 n0 p0 g0 v1 W hm hs h he
    rw [hp] at this; exact this
  have HN : Hid _ := ha
  have HE : Hid (Eof w) := he
  clear he
  clear h0 ha hp
  go_enter Tryd.func33, Tryd.ntmps33
  go_wp2_with fail
  refine Calls.mono (HL.out _ HT0.out (HE.out.below HB0.out)) ?_
  rintro e w1 ⟨rfl, hb1⟩
  have HB1 : Hid (Below w.heap.size w w1) := HB0.out.trans (hb1.mono HB0.out.size)
  have HT1 : Hid (Txt w1 a0 n0 g0) := HT0.out.below hb1
  have HP1 : Hid (w1.heap[w.heap.size]? = some (.cells #[.slice a0 n0 p0, .int .i64 v1] 45)) := get_below hb1 HP0.out (size_of_get HP0.out)
  have HR1 : Hid (w1.heap[w.heap.size + 1]? = some (.cells #[.slice none 0 0, .int .i64 0] 45)) := get_below hb1 HR0.out (size_of_get HR0.out)
  have hz1 : w.heap.size + 1 < w1.heap.size := size_of_get HR1.out
  clear hb1
  obtain ⟨r0, r1⟩ := cells2_of HR1.out
  have fr : ∀ j, w1.frozen? ⟨w.heap.size + 1, j, none⟩ = false := fun j => frozen_get HR1.out
  go_wp2_with fail
  refine bodyPost_ret (v := .tuple #[.agg #[.slice none 0 0, .int .i64 0], .bool false]) (results_row_tmp Tryd.results33 _ _ (w.heap.size + 1) 45 #[.slice none 0 0, .int .i64 0] (0, 0) _ rfl ?_ Tryd.underlying45 rfl cellsQueue _ rfl) rfl ⟨rfl, ?_⟩
  · exact get_set (get_set HR1.out rfl) rfl
  · exact belowS (belowS HB1.out (by omega)) (by omega)
set_option maxRecDepth 100000 in
set_option maxHeartbeats 4000000 in
theorem implQueuePut_full (a0 : Option Addr) (n0 p0 : Nat) (g0 : Nat → ByteArray) (v1 : Int) (t : ByteArray) (w : World) (hm : n0 ≤ 1048576) (hs : ∀ i, i < n0 → (g0 i).size ≤ 1048576) (hts : t.size ≤ 1048576) (ha : a0 = none → n0 = 0 ∧ p0 = 0) (h0 : Txt w a0 n0 g0) (he : Eof w) (hp : quB n0 g0 v1 = true) (hv : jpB t = false ∨ (jpB t = true ∧ 8 ≤ (n0 : Int))) :
    Calls Tryd.prog 33 #[.agg #[.slice a0 n0 p0, .int .i64 v1], .string t] w fun e w' => ∃ b c, e = .returned (.tuple #[.agg #[.slice (some ⟨b, 0, none⟩) n0 c, .int .i64 v1], .bool false]) ∧ w.heap.size ≤ b ∧ w'.ownsRow b 9 1 (.slice (some ⟨b, 0, none⟩) n0 c) n0 (cellsL n0 (allString g0)) ∧ Below w.heap.size w w' := by
  have HV : Hid _ := hv
  clear hv
  have HT0 : Hid (Txt ((w.alloc (.cells #[.slice a0 n0 p0, .int .i64 v1] 45)).alloc (.cells #[.slice none 0 0, .int .i64 0] 45)) a0 n0 g0) := (h0.alloc _).alloc _
  have HB0 : Hid (Below w.heap.size w ((w.alloc (.cells #[.slice a0 n0 p0, .int .i64 v1] 45)).alloc (.cells #[.slice none 0 0, .int .i64 0] 45))) := ((Below.refl _ _).alloc (Nat.le_refl _) _).alloc (by simp) _
  have HP0 : Hid (((w.alloc (.cells #[.slice a0 n0 p0, .int .i64 v1] 45)).alloc (.cells #[.slice none 0 0, .int .i64 0] 45)).heap[w.heap.size]? = some (.cells #[.slice a0 n0 p0, .int .i64 v1] 45)) := get_alloc (get_new rfl) (by simp)
  have HR0 : Hid (((w.alloc (.cells #[.slice a0 n0 p0, .int .i64 v1] 45)).alloc (.cells #[.slice none 0 0, .int .i64 0] 45)).heap[w.heap.size + 1]? = some (.cells #[.slice none 0 0, .int .i64 0] 45)) := get_new (by simp)
  have HL : Hid (∀ W : World, Txt W a0 n0 g0 → Eof W → Calls Tryd.prog 30 #[.agg #[.slice a0 n0 p0, .int .i64 v1]] W fun e w' => e = .returned (.bool true) ∧ Below W.heap.size W w') := fun W h he => by
    have := implQueueOk_any a0 n0 p0 g0 v1 W hm hs h he
    rw [hp] at this; exact this
  have HN : Hid _ := ha
  have HE : Hid (Eof w) := he
  clear he
  clear h0 ha hp
  go_enter Tryd.func33, Tryd.ntmps33
  go_wp2_with fail
  refine Calls.mono (HL.out _ HT0.out (HE.out.below HB0.out)) ?_
  rintro e w1 ⟨rfl, hb1⟩
  have HB1 : Hid (Below w.heap.size w w1) := HB0.out.trans (hb1.mono HB0.out.size)
  have HT1 : Hid (Txt w1 a0 n0 g0) := HT0.out.below hb1
  have HP1 : Hid (w1.heap[w.heap.size]? = some (.cells #[.slice a0 n0 p0, .int .i64 v1] 45)) := get_below hb1 HP0.out (size_of_get HP0.out)
  have HR1 : Hid (w1.heap[w.heap.size + 1]? = some (.cells #[.slice none 0 0, .int .i64 0] 45)) := get_below hb1 HR0.out (size_of_get HR0.out)
  have hz1 : w.heap.size + 1 < w1.heap.size := size_of_get HR1.out
  clear hb1
  obtain ⟨k0, k1⟩ := cells2_of HP1.out
  have hzp : w.heap.size < w1.heap.size := size_of_get HP1.out
  go_wp2_with fail
  clear k0 k1
  refine (newLineS_own a0 n0 p0 g0 _ (by omega) HN.out HT1.out).mono ?_
  rintro e w2 ⟨b, c, rfl, hlo, hown, hb2⟩
  have hlt := own_lt hown
  have HB2 : Hid (Below w.heap.size w w2) := HB1.out.trans (hb2.mono HB1.out.size)
  have HP2 : Hid (w2.heap[w.heap.size]? = some (.cells #[.slice a0 n0 p0, .int .i64 v1] 45)) := get_below hb2 HP1.out (size_of_get HP1.out)
  have HR2 : Hid (w2.heap[w.heap.size + 1]? = some (.cells #[.slice none 0 0, .int .i64 0] 45)) := get_below hb2 HR1.out (size_of_get HR1.out)
  have hs2 : w1.heap.size ≤ w2.heap.size := hb2.size
  have HS3 : Hid _ := own_kept hown ((Below.refl _ _).alloc (Nat.le_refl _) (.cells #[.slice (some ⟨b, 0, none⟩) n0 c] 114))
  have HB3 : Hid (Below w.heap.size w (w2.alloc (.cells #[.slice (some ⟨b, 0, none⟩) n0 c] 114))) := HB2.out.alloc HB2.out.size _
  have HP3 : Hid ((w2.alloc (.cells #[.slice (some ⟨b, 0, none⟩) n0 c] 114)).heap[w.heap.size]? = some (.cells #[.slice a0 n0 p0, .int .i64 v1] 45)) := get_alloc HP2.out (by omega)
  have HR3 : Hid ((w2.alloc (.cells #[.slice (some ⟨b, 0, none⟩) n0 c] 114)).heap[w.heap.size + 1]? = some (.cells #[.slice none 0 0, .int .i64 0] 45)) := get_alloc HR2.out (by omega)
  have HY3 : Hid ((w2.alloc (.cells #[.slice (some ⟨b, 0, none⟩) n0 c] 114)).heap[w2.heap.size]? = some (.cells #[.slice (some ⟨b, 0, none⟩) n0 c] 114)) := get_new rfl
  have hz3 : w2.heap.size < (w2.alloc (.cells #[.slice (some ⟨b, 0, none⟩) n0 c] 114)).heap.size := by simp
  clear hb2 hown
  go_wp2_with fail
  generalize (w2.alloc (.cells #[.slice (some ⟨b, 0, none⟩) n0 c] 114)) = w3 at *
  refine (implJust_any t _ hts (HE.out.below HB3.out)).mono ?_
  rintro e w4 ⟨rfl, hb4⟩
  have HS4 : Hid _ := own_kept HS3.out hb4
  have HB4 : Hid (Below w.heap.size w w4) := HB3.out.trans (hb4.mono HB3.out.size)
  have HP4 : Hid (w4.heap[w.heap.size]? = some (.cells #[.slice a0 n0 p0, .int .i64 v1] 45)) := get_below hb4 HP3.out (size_of_get HP3.out)
  have HR4 : Hid (w4.heap[w.heap.size + 1]? = some (.cells #[.slice none 0 0, .int .i64 0] 45)) := get_below hb4 HR3.out (size_of_get HR3.out)
  have HY4 : Hid (w4.heap[w2.heap.size]? = some (.cells #[.slice (some ⟨b, 0, none⟩) n0 c] 114)) := get_below hb4 HY3.out (size_of_get HY3.out)
  have hz4 : w2.heap.size < w4.heap.size := size_of_get HY4.out
  clear hb4
  obtain ⟨k0, k1⟩ := cells2_of HP4.out
  have y0 : w4.cell? ⟨w2.heap.size, 0, none⟩ = some (.slice (some ⟨b, 0, none⟩) n0 c) := cell_get HY4.out rfl
  rcases HV.out with hv | ⟨hv, h8⟩
  · rw [hv]
    obtain ⟨q0, q1⟩ := cells2_of HR4.out
    have fr : ∀ j, w4.frozen? ⟨w.heap.size + 1, j, none⟩ = false := fun j => frozen_get HR4.out
    go_wp2_with fail
    refine bodyPost_ret (v := .tuple #[.agg #[.slice (some ⟨b, 0, none⟩) n0 c, .int .i64 v1], .bool false]) (results_row_tmp Tryd.results33 _ _ (w.heap.size + 1) 45 #[.slice (some ⟨b, 0, none⟩) n0 c, .int .i64 v1] (0, 0) _ rfl ?_ Tryd.underlying45 rfl cellsQueue _ rfl) rfl ⟨b, c, rfl, by omega, ?_, ?_⟩
    · exact get_set (get_set HR4.out rfl) rfl
    · exact own_set_ne (own_set_ne HS4.out (by omega)) (by omega)
    · exact belowS (belowS HB4.out (by omega)) (by omega)
  · rw [hv]
    have h9 : decide ((n0 : Int) < 8) = false := by simp; omega
    clear h8
    obtain ⟨q0, q1⟩ := cells2_of HR4.out
    have fr : ∀ j, w4.frozen? ⟨w.heap.size + 1, j, none⟩ = false := fun j => frozen_get HR4.out
    go_wp2_with fail
    refine bodyPost_ret (v := .tuple #[.agg #[.slice (some ⟨b, 0, none⟩) n0 c, .int .i64 v1], .bool false]) (results_row_tmp Tryd.results33 _ _ (w.heap.size + 1) 45 #[.slice (some ⟨b, 0, none⟩) n0 c, .int .i64 v1] (0, 0) _ rfl ?_ Tryd.underlying45 rfl cellsQueue _ rfl) rfl ⟨b, c, rfl, by omega, ?_, ?_⟩
    · exact get_set (get_set HR4.out rfl) rfl
    · exact own_set_ne (own_set_ne HS4.out (by omega)) (by omega)
    · exact belowS (belowS HB4.out (by omega)) (by omega)
set_option maxRecDepth 100000 in
set_option maxHeartbeats 4000000 in
theorem implQueuePut_yes (a0 : Option Addr) (n0 p0 : Nat) (g0 : Nat → ByteArray) (v1 : Int) (t : ByteArray) (w : World) (hm : n0 ≤ 1048576) (hs : ∀ i, i < n0 → (g0 i).size ≤ 1048576) (hts : t.size ≤ 1048576) (ha : a0 = none → n0 = 0 ∧ p0 = 0) (h0 : Txt w a0 n0 g0) (he : Eof w) (hp : quB n0 g0 v1 = true) (hv : jpB t = true) (h8 : (n0 : Int) < 8) :
    Calls Tryd.prog 33 #[.agg #[.slice a0 n0 p0, .int .i64 v1], .string t] w fun e w' => ∃ b c, e = .returned (.tuple #[.agg #[.slice (some ⟨b, 0, none⟩) (n0 + 1) c, .int .i64 v1], .bool true]) ∧ w.heap.size ≤ b ∧ w'.ownsRow b 9 1 (.slice (some ⟨b, 0, none⟩) (n0 + 1) c) (n0 + 1) (cellsL ((n0 + 1)) (allString (snocS n0 g0 t))) ∧ Below w.heap.size w w' := by
  have HV : Hid _ := hv
  clear hv
  have HT0 : Hid (Txt ((w.alloc (.cells #[.slice a0 n0 p0, .int .i64 v1] 45)).alloc (.cells #[.slice none 0 0, .int .i64 0] 45)) a0 n0 g0) := (h0.alloc _).alloc _
  have HB0 : Hid (Below w.heap.size w ((w.alloc (.cells #[.slice a0 n0 p0, .int .i64 v1] 45)).alloc (.cells #[.slice none 0 0, .int .i64 0] 45))) := ((Below.refl _ _).alloc (Nat.le_refl _) _).alloc (by simp) _
  have HP0 : Hid (((w.alloc (.cells #[.slice a0 n0 p0, .int .i64 v1] 45)).alloc (.cells #[.slice none 0 0, .int .i64 0] 45)).heap[w.heap.size]? = some (.cells #[.slice a0 n0 p0, .int .i64 v1] 45)) := get_alloc (get_new rfl) (by simp)
  have HR0 : Hid (((w.alloc (.cells #[.slice a0 n0 p0, .int .i64 v1] 45)).alloc (.cells #[.slice none 0 0, .int .i64 0] 45)).heap[w.heap.size + 1]? = some (.cells #[.slice none 0 0, .int .i64 0] 45)) := get_new (by simp)
  have HL : Hid (∀ W : World, Txt W a0 n0 g0 → Eof W → Calls Tryd.prog 30 #[.agg #[.slice a0 n0 p0, .int .i64 v1]] W fun e w' => e = .returned (.bool true) ∧ Below W.heap.size W w') := fun W h he => by
    have := implQueueOk_any a0 n0 p0 g0 v1 W hm hs h he
    rw [hp] at this; exact this
  have HN : Hid _ := ha
  have HE : Hid (Eof w) := he
  clear he
  clear h0 ha hp
  go_enter Tryd.func33, Tryd.ntmps33
  go_wp2_with fail
  refine Calls.mono (HL.out _ HT0.out (HE.out.below HB0.out)) ?_
  rintro e w1 ⟨rfl, hb1⟩
  have HB1 : Hid (Below w.heap.size w w1) := HB0.out.trans (hb1.mono HB0.out.size)
  have HT1 : Hid (Txt w1 a0 n0 g0) := HT0.out.below hb1
  have HP1 : Hid (w1.heap[w.heap.size]? = some (.cells #[.slice a0 n0 p0, .int .i64 v1] 45)) := get_below hb1 HP0.out (size_of_get HP0.out)
  have HR1 : Hid (w1.heap[w.heap.size + 1]? = some (.cells #[.slice none 0 0, .int .i64 0] 45)) := get_below hb1 HR0.out (size_of_get HR0.out)
  have hz1 : w.heap.size + 1 < w1.heap.size := size_of_get HR1.out
  clear hb1
  obtain ⟨k0, k1⟩ := cells2_of HP1.out
  have hzp : w.heap.size < w1.heap.size := size_of_get HP1.out
  go_wp2_with fail
  clear k0 k1
  refine (newLineS_own a0 n0 p0 g0 _ (by omega) HN.out HT1.out).mono ?_
  rintro e w2 ⟨b, c, rfl, hlo, hown, hb2⟩
  have hlt := own_lt hown
  have HB2 : Hid (Below w.heap.size w w2) := HB1.out.trans (hb2.mono HB1.out.size)
  have HP2 : Hid (w2.heap[w.heap.size]? = some (.cells #[.slice a0 n0 p0, .int .i64 v1] 45)) := get_below hb2 HP1.out (size_of_get HP1.out)
  have HR2 : Hid (w2.heap[w.heap.size + 1]? = some (.cells #[.slice none 0 0, .int .i64 0] 45)) := get_below hb2 HR1.out (size_of_get HR1.out)
  have hs2 : w1.heap.size ≤ w2.heap.size := hb2.size
  have HS3 : Hid _ := own_kept hown ((Below.refl _ _).alloc (Nat.le_refl _) (.cells #[.slice (some ⟨b, 0, none⟩) n0 c] 114))
  have HB3 : Hid (Below w.heap.size w (w2.alloc (.cells #[.slice (some ⟨b, 0, none⟩) n0 c] 114))) := HB2.out.alloc HB2.out.size _
  have HP3 : Hid ((w2.alloc (.cells #[.slice (some ⟨b, 0, none⟩) n0 c] 114)).heap[w.heap.size]? = some (.cells #[.slice a0 n0 p0, .int .i64 v1] 45)) := get_alloc HP2.out (by omega)
  have HR3 : Hid ((w2.alloc (.cells #[.slice (some ⟨b, 0, none⟩) n0 c] 114)).heap[w.heap.size + 1]? = some (.cells #[.slice none 0 0, .int .i64 0] 45)) := get_alloc HR2.out (by omega)
  have HY3 : Hid ((w2.alloc (.cells #[.slice (some ⟨b, 0, none⟩) n0 c] 114)).heap[w2.heap.size]? = some (.cells #[.slice (some ⟨b, 0, none⟩) n0 c] 114)) := get_new rfl
  have hz3 : w2.heap.size < (w2.alloc (.cells #[.slice (some ⟨b, 0, none⟩) n0 c] 114)).heap.size := by simp
  clear hb2 hown
  go_wp2_with fail
  generalize (w2.alloc (.cells #[.slice (some ⟨b, 0, none⟩) n0 c] 114)) = w3 at *
  refine (implJust_any t _ hts (HE.out.below HB3.out)).mono ?_
  rintro e w4 ⟨rfl, hb4⟩
  have HS4 : Hid _ := own_kept HS3.out hb4
  have HB4 : Hid (Below w.heap.size w w4) := HB3.out.trans (hb4.mono HB3.out.size)
  have HP4 : Hid (w4.heap[w.heap.size]? = some (.cells #[.slice a0 n0 p0, .int .i64 v1] 45)) := get_below hb4 HP3.out (size_of_get HP3.out)
  have HR4 : Hid (w4.heap[w.heap.size + 1]? = some (.cells #[.slice none 0 0, .int .i64 0] 45)) := get_below hb4 HR3.out (size_of_get HR3.out)
  have HY4 : Hid (w4.heap[w2.heap.size]? = some (.cells #[.slice (some ⟨b, 0, none⟩) n0 c] 114)) := get_below hb4 HY3.out (size_of_get HY3.out)
  have hz4 : w2.heap.size < w4.heap.size := size_of_get HY4.out
  clear hb4
  obtain ⟨k0, k1⟩ := cells2_of HP4.out
  have y0 : w4.cell? ⟨w2.heap.size, 0, none⟩ = some (.slice (some ⟨b, 0, none⟩) n0 c) := cell_get HY4.out rfl
  rw [HV.out]
  have HV5 : Hid _ := own_kept HS4.out ((Below.refl _ _).alloc (Nat.le_refl _) (.cells #[.string t] 9))
  obtain ⟨b5, c5, w5, hrun, hor, hb5, hS5, hoff⟩ := append_oneString (w4.alloc (.cells #[.string t] 9)) b n0 c g0 t w4.heap.size (by omega) HV5.out (cell_get (get_new rfl) rfl)
  have hsz5 : w4.heap.size + 1 ≤ w5.heap.size := by have := hoff.size; simp at this; omega
  have hor : b5 = b ∨ w4.heap.size < b5 := by rcases hor with e | e; exact .inl e; exact .inr (by simp at e; omega)
  have HB5 : Hid (Below w.heap.size w w5) := Off.below (HB4.out.alloc HB4.out.size _) hoff (by have := HB4.out.size; simp; omega) (by simp; omega)
  have HP5 : Hid (w5.heap[w.heap.size]? = some (.cells #[.slice a0 n0 p0, .int .i64 v1] 45)) := hoff.get (get_alloc HP4.out (by omega)) (by simp; omega)
  have HR5 : Hid (w5.heap[w.heap.size + 1]? = some (.cells #[.slice none 0 0, .int .i64 0] 45)) := hoff.get (get_alloc HR4.out (by omega)) (by simp; omega)
  have HY5 : Hid (w5.heap[w2.heap.size]? = some (.cells #[.slice (some ⟨b, 0, none⟩) n0 c] 114)) := hoff.get (get_alloc HY4.out (by omega)) (by simp; omega)
  have HS5 : Hid _ := hS5
  have HRUN : Hid _ := hrun
  clear hoff hS5 hrun
  obtain ⟨q0, q1⟩ := cells2_of HR5.out
  obtain ⟨kk0, kk1⟩ := cells2_of HP5.out
  have z0 : w5.cell? ⟨w2.heap.size, 0, none⟩ = some (.slice (some ⟨b, 0, none⟩) n0 c) := cell_get HY5.out rfl
  have fr : ∀ j, w5.frozen? ⟨w.heap.size + 1, j, none⟩ = false := fun j => frozen_get HR5.out
  have fy : ∀ j, w5.frozen? ⟨w2.heap.size, j, none⟩ = false := fun j => frozen_get HY5.out
  go_wp2_with (go_at_call 80; refine (pushS_run w2.heap.size b n0 c b5 c5 t w4 w5 y0 (by omega) HRUN.out (fun j => fy j) z0).mono ?_; rintro e w6 ⟨rfl, rfl⟩)
  refine bodyPost_ret (v := .tuple #[.agg #[.slice (some ⟨b5, 0, none⟩) (n0 + 1) c5, .int .i64 v1], .bool true]) (results_row_tmp Tryd.results33 _ _ (w.heap.size + 1) 45 #[.slice (some ⟨b5, 0, none⟩) (n0 + 1) c5, .int .i64 v1] (0, 0) _ rfl ?_ Tryd.underlying45 rfl cellsQueue _ rfl) rfl ⟨b5, c5, rfl, by omega, ?_, ?_⟩
  · exact get_set (get_set (get_set_ne HR5.out (by omega)) rfl) rfl
  · exact own_set_ne (own_set_ne (own_set_ne HS5.out (by omega)) (by omega)) (by omega)
  · exact belowS (belowS (belowS HB5.out (by omega)) (by omega)) (by omega)
end Go.Proofs.YtgejiiaocgacmaaDoor
