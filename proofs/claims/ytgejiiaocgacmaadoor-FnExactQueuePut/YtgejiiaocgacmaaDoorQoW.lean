/- Just a packet; QueueOk, both sides. -/
import Derived.Test.YtgejiiaocgacmaaDoorStQueue
import Derived.Test.YtgejiiaocgacmaaDoorPgS
import Derived.Test.YtgejiiaocgacmaaDoorQuB
import Derived.Test.YtgejiiaocgacmaaDoorUp
namespace Go.Proofs.YtgejiiaocgacmaaDoor
open Go.ChangeShapes Go.WideShapes Go.ChangeAt Go.RowKit
set_option linter.unusedVariables false

def jpB (t : ByteArray) : Bool := decide (0 < pgN (pgAt t 0)) && decide (pgN (pgAt t 0) = (t.size : Int))
theorem jpB_pos {t : ByteArray} (h : jpB t = true) : 0 < t.size := by
  simp only [jpB, Bool.and_eq_true, decide_eq_true_eq] at h
  omega
def jpAll (g : Nat → ByteArray) : Nat → Bool
  | 0 => true
  | k + 1 => jpAll g k && jpB (g k)
theorem jpAll_false {g : Nat → ByteArray} {k n : Nat} (h : jpAll g k = false) (hn : k ≤ n) : jpAll g n = false := by
  induction n with
  | zero => obtain rfl : k = 0 := by omega
            exact h
  | succ n ih =>
    by_cases e : k = n + 1
    · subst e; exact h
    · simp [jpAll, ih (by omega)]
theorem jpAll_at {g : Nat → ByteArray} {k n : Nat} (h : jpAll g n = true) (hk : k < n) : jpB (g k) = true := by
  induction n with
  | zero => omega
  | succ n ih =>
    simp only [jpAll, Bool.and_eq_true] at h
    by_cases e : k = n
    · subst e; exact h.2
    · exact ih h.1 (by omega)
def quB (n : Nat) (g : Nat → ByteArray) (v : Int) : Bool := decide ((n : Int) ≤ 9) && jpAll g n && (if n = 0 then decide (v = 0) else inB v 0 ((g 0).size - 1))
set_option maxRecDepth 100000 in
set_option maxHeartbeats 1000000 in
theorem implJust_any (t : ByteArray) (w : World) (ht : t.size ≤ 1048576) (he : Eof w) :
    Calls Tryd.prog 77 #[.string t] w fun e w' => e = .returned (.bool (jpB t)) ∧ Below w.heap.size w w' := by
  obtain ⟨u, a, c, d, hv⟩ := pgV_agg (pgAt t 0)
  obtain ⟨m, hm⟩ : ∃ m, m = pgN (pgAt t 0) := ⟨_, rfl⟩
  have HC : Hid (∀ W, Eof W → Calls Tryd.prog 54 #[.string t, .int .i64 0] W fun e w' => e = .returned (.tuple #[.agg #[.bool u, .int .i64 a, .int .i64 c, .string d], .int .i64 m]) ∧ Below W.heap.size W w') := fun W he => by
    have := implPacketGet_any t 0 W ht he
    rw [hv, ← hm] at this; exact this
  have HE : Hid (Eof w) := he
  clear he
  have HJ : Hid (jpB t = (decide (0 < m) && decide (m = (t.size : Int)))) := by show _ = _; unfold jpB; rw [hm]
  clear hv hm
  by_cases h1 : 0 < m
  · go_enter Tryd.func77, Tryd.ntmps77
    go_wp2_with fail
    refine Calls.mono (HC.out _ HE.out) ?_
    rintro e w1 ⟨rfl, hb1⟩
    have HB1 : Hid (Below w.heap.size w w1) := hb1
    clear hb1
    go_wp2_with fail
    go_ret
    exact ⟨by rw [HJ.out, decide_eq_true h1]; by_cases h2 : m = (t.size : Int) <;> simp [h2], HB1.out.alloc HB1.out.size _⟩
  · go_enter Tryd.func77, Tryd.ntmps77
    go_wp2_with fail
    refine Calls.mono (HC.out _ HE.out) ?_
    rintro e w1 ⟨rfl, hb1⟩
    have HB1 : Hid (Below w.heap.size w w1) := hb1
    clear hb1
    go_wp2_with fail
    go_ret
    exact ⟨by rw [HJ.out, decide_eq_false (show ¬ 0 < m by omega)]; rfl, HB1.out.alloc HB1.out.size _⟩
set_option maxRecDepth 100000 in
set_option maxHeartbeats 1000000 in
theorem specJust_any (t : ByteArray) (w : World) (ht : t.size ≤ 1048576) :
    Calls Tryd.prog 75 #[.string t] w fun e w' => e = .returned (.bool (jpB t)) ∧ Below w.heap.size w w' := by
  obtain ⟨u, a, c, d, hv⟩ := pgV_agg (pgAt t 0)
  obtain ⟨m, hm⟩ : ∃ m, m = pgN (pgAt t 0) := ⟨_, rfl⟩
  have HC : Hid (∀ W, Calls Tryd.prog 113 #[.string t, .int .i64 0] W fun e w' => e = .returned (.tuple #[.agg #[.bool u, .int .i64 a, .int .i64 c, .string d], .int .i64 m]) ∧ Below W.heap.size W w') := fun W  => by
    have := specPacketGet_any t 0 W ht
    rw [hv, ← hm] at this; exact this
  have HJ : Hid (jpB t = (decide (0 < m) && decide (m = (t.size : Int)))) := by show _ = _; unfold jpB; rw [hm]
  clear hv hm
  by_cases h1 : 0 < m
  · go_enter Tryd.func75, Tryd.ntmps75
    go_wp2_with fail
    refine Calls.mono (HC.out _) ?_
    rintro e w1 ⟨rfl, hb1⟩
    have HB1 : Hid (Below w.heap.size w w1) := hb1
    clear hb1
    go_wp2_with fail
    go_ret
    exact ⟨by rw [HJ.out, decide_eq_true h1]; by_cases h2 : m = (t.size : Int) <;> simp [h2], HB1.out.alloc HB1.out.size _⟩
  · go_enter Tryd.func75, Tryd.ntmps75
    go_wp2_with fail
    refine Calls.mono (HC.out _) ?_
    rintro e w1 ⟨rfl, hb1⟩
    have HB1 : Hid (Below w.heap.size w w1) := hb1
    clear hb1
    go_wp2_with fail
    go_ret
    exact ⟨by rw [HJ.out, decide_eq_false (show ¬ 0 < m by omega)]; rfl, HB1.out.alloc HB1.out.size _⟩
set_option maxRecDepth 100000 in
set_option maxHeartbeats 8000000 in
theorem implQueueOk_any (a0 : Option Addr) (n0 p0 : Nat) (g0 : Nat → ByteArray) (v1 : Int) (w : World) (hm : n0 ≤ 1048576) (hs : ∀ i, i < n0 → (g0 i).size ≤ 1048576) (h0 : Txt w a0 n0 g0) (he : Eof w) :
    Calls Tryd.prog 30 #[.agg #[.slice a0 n0 p0, .int .i64 v1]] w fun e w' => e = .returned (.bool (quB n0 g0 v1)) ∧ Below w.heap.size w w' := by
  have HB0 : Hid (∀ o, Below w.heap.size w (w.alloc o)) := fun o => (Below.refl _ _).alloc (Nat.le_refl _) o
  have HS : Hid (∀ i, i < n0 → (g0 i).size ≤ 1048576) := hs
  clear hs
  have HE : Hid (Eof w) := he
  clear he
  have hBad : Hid (∀ k, k < n0 → jpB (g0 k) = false → quB n0 g0 v1 = false) := by
    intro k hk hb
    have : jpAll g0 n0 = false := jpAll_false (k := k + 1) (by simp [jpAll, hb]) (by omega)
    simp [quB, this]
  by_cases hbig : (9 : Int) < n0
  · have HX : Hid (quB n0 g0 v1 = false) := by
      show _ = _
      have : decide ((n0 : Int) ≤ 9) = false := by simp; omega
      simp [quB, this]
    clear h0 hBad
    go_enter Tryd.func30, Tryd.ntmps30
    go_wp2_with fail
    go_ret
    exact ⟨by rw [HX.out]; rfl, HB0.out _⟩
  obtain ⟨hsz, hz0 | ⟨b, off, rfl, hlt, hc⟩⟩ := h0
  · subst hz0
    clear hBad hsz
    by_cases hv : v1 = 0
    · subst hv
      have HX : Hid (quB 0 g0 0 = true) := rfl
      go_enter Tryd.func30, Tryd.ntmps30
      go_wp2_with fail
      refine Go.wp_loop_rounds 1 ?_
      rw [Go.rounds_succ]
      go_wp2_with fail
      go_quiet (fail)
      go_wp2_with fail
      go_ret
      exact ⟨by rw [HX.out]; first | rfl | simp [hv], belowN (HB0.out _) _⟩
    · have HX : Hid (quB 0 g0 v1 = false) := by show _ = _; simp [quB, hv]
      have hd : decide (v1 = 0) = false := by simp [hv]
      have hd2 : (v1 == 0) = false := by simp [hv]
      go_enter Tryd.func30, Tryd.ntmps30
      go_wp2_with fail
      refine Go.wp_loop_rounds 1 ?_
      rw [Go.rounds_succ]
      go_wp2_with fail
      go_quiet (fail)
      go_wp2_with fail
      go_ret
      exact ⟨by rw [HX.out]; first | rfl | simp [hv], belowN (HB0.out _) _⟩
  have HC : Hid (∀ o, ∀ i, i < n0 → (w.alloc o).cell? ⟨b, off + i, none⟩ = some (.string (g0 i))) := fun o i hi => (((Below.refl _ _).alloc (Nat.le_refl _) o).cell (p := ⟨b, off + i, none⟩) hlt).trans (hc i hi)
  clear hc hsz
  go_enter Tryd.func30, Tryd.ntmps30
  go_wp2_with fail
  go_loopw [12] (fun i wr => ∃ k : Nat, k ≤ n0 ∧ i = .int .i64 k ∧ Hid (jpAll g0 k = true) ∧ Below (w.heap.size + 1) (w.alloc (.cells #[.slice (some ⟨b, off, none⟩) n0 p0, .int .i64 v1] 45)) wr) (fun i _ => n0 - (intOf i).toNat)
  case atStart => exact ⟨0, by omega, rfl, rfl, Below.refl _ _⟩
  case round =>
    obtain ⟨k, hk, rfl, hx, hB⟩ := hrel
    have hhw : ∀ o i, o < w.heap.size + 1 → wr.cell? ⟨o, i, none⟩ = (w.alloc (.cells #[.slice (some ⟨b, off, none⟩) n0 p0, .int .i64 v1] 45)).cell? ⟨o, i, none⟩ := fun o i hi => hB.cell (p := ⟨o, i, none⟩) hi
    have kk0 : wr.cell? ⟨w.heap.size, 0, none⟩ = some (.slice (some ⟨b, off, none⟩) n0 p0) := by rw [hhw _ _ (by omega)]; exact cell_get (get_new rfl) rfl
    have kk1 : wr.cell? ⟨w.heap.size, 1, none⟩ = some (.int .i64 v1) := by rw [hhw _ _ (by omega)]; exact cell_get (get_new rfl) rfl
    have hzr : w.heap.size < wr.heap.size := by have := hB.size; simp at this; omega
    have HCW : Hid (∀ i, i < n0 → wr.cell? ⟨b, off + i, none⟩ = some (.string (g0 i))) := fun i hi => by rw [hhw _ _ (by omega)]; exact HC.out _ i hi
    have HB : Hid (Below w.heap.size w wr) := (HB0.out _).trans (hB.mono (by omega))
    have HBX : Hid (Below (w.heap.size + 1) (w.alloc (.cells #[.slice (some ⟨b, off, none⟩) n0 p0, .int .i64 v1] 45)) wr) := hB
    clear hB hhw
    have HEw : Hid (Eof wr) := HE.out.below HB.out
    by_cases hlt2 : k < n0
    · have hck := HCW.out k hlt2
      have hik : (k : Int) < (n0 : Int) := by omega
      have hsk := HS.out k hlt2
      cases hj : jpB (g0 k)
      · have HX : Hid _ := hBad.out k hlt2 hj
        go_wp2_with fail
        refine (implJust_any _ _ hsk HEw.out).mono ?_
        rintro e w1 ⟨rfl, hb1⟩
        rw [hj]
        have HB1 : Hid (Below w.heap.size w w1) := HB.out.trans (hb1.mono HB.out.size)
        have HBX1 : Hid (Below (w.heap.size + 1) (w.alloc (.cells #[.slice (some ⟨b, off, none⟩) n0 p0, .int .i64 v1] 45)) w1) := HBX.out.trans (hb1.mono hzr)
        clear hb1 kk0 kk1 hck
        go_wp2_with fail
        go_ret
        exact ⟨by rw [HX.out]; rfl, HB1.out⟩
      · have HX : Hid (jpAll g0 (k + 1) = true) := by show _ = _; simp [jpAll, hx.out, hj]
        go_wp2_with fail
        refine (implJust_any _ _ hsk HEw.out).mono ?_
        rintro e w1 ⟨rfl, hb1⟩
        rw [hj]
        have HB1 : Hid (Below w.heap.size w w1) := HB.out.trans (hb1.mono HB.out.size)
        have HBX1 : Hid (Below (w.heap.size + 1) (w.alloc (.cells #[.slice (some ⟨b, off, none⟩) n0 p0, .int .i64 v1] 45)) w1) := HBX.out.trans (hb1.mono hzr)
        clear hb1 kk0 kk1 hck
        go_wp2_with fail
        exact ⟨⟨k + 1, by omega, by go_num, HX.out, HBX1.out⟩, by simp [intOf]; omega⟩
    · obtain rfl : k = n0 := by omega
      by_cases hk0 : k = 0
      · subst hk0
        by_cases hv : v1 = 0
        · subst hv
          have HX : Hid (quB 0 g0 0 = true) := rfl
          go_wp2_with fail
          go_quiet (fail)
          go_wp2_with fail
          go_ret
          exact ⟨by rw [HX.out]; first | rfl | simp [hv], belowN HB.out _⟩
        · have HX : Hid (quB 0 g0 v1 = false) := by show _ = _; simp [quB, hv]
          have hd : decide (v1 = 0) = false := by simp [hv]
          have hd2 : (v1 == 0) = false := by simp [hv]
          go_wp2_with fail
          go_quiet (fail)
          go_wp2_with fail
          go_ret
          exact ⟨by rw [HX.out]; first | rfl | simp [hv], belowN HB.out _⟩
      have h0k : (0 : Int) < (k : Int) := by omega
      have hc0 : wr.cell? ⟨b, off, none⟩ = some (.string (g0 0)) := HCW.out 0 (by omega)
      have hs0 := HS.out 0 (by omega)
      have hp0 : 0 < (g0 0).size := jpB_pos (jpAll_at hx.out (by omega))
      by_cases hv : v1 = 0
      · subst hv
        have HX : Hid (quB k g0 0 = true) := by
          show _ = _
          have h9 : decide ((k : Int) ≤ 9) = true := by simp; omega
          have hi : inB 0 0 (((g0 0).size : Int) - 1) = true := inB_yes (by omega) (by omega)
          simp only [quB, h9, hx.out, if_neg hk0, hi, Bool.and_self]
        go_wp2_with fail
        go_quiet (fail)
        go_wp2_with fail
        go_ret
        exact ⟨by rw [HX.out]; rfl, belowN HB.out _⟩
      have hd : decide (v1 = 0) = false := by simp [hv]
      have hd2 : (v1 == 0) = false := by simp [hv]
      have HX : Hid (quB k g0 v1 = inB v1 0 (((g0 0).size : Int) - 1)) := by
        show _ = _
        have h9 : decide ((k : Int) ≤ 9) = true := by simp; omega
        simp only [quB, h9, hx.out, if_neg hk0, Bool.and_self, Bool.true_and]
      have hkd : decide (0 < k) = true := by simp; omega
      go_wp2_with fail
      go_quiet ((go_at_call 67; exact Calls.quiet_of_same (upTo_any _ _ _)))
      go_wp2_with fail
      go_ret
      exact ⟨by rw [HX.out]; rfl, belowN HB.out _⟩
set_option maxRecDepth 100000 in
set_option maxHeartbeats 8000000 in
theorem specQueueOk_any (a0 : Option Addr) (n0 p0 : Nat) (g0 : Nat → ByteArray) (v1 : Int) (w : World) (hm : n0 ≤ 1048576) (hs : ∀ i, i < n0 → (g0 i).size ≤ 1048576) (h0 : Txt w a0 n0 g0) :
    Calls Tryd.prog 28 #[.agg #[.slice a0 n0 p0, .int .i64 v1]] w fun e w' => e = .returned (.bool (quB n0 g0 v1)) ∧ Below w.heap.size w w' := by
  have HB0 : Hid (∀ o, Below w.heap.size w (w.alloc o)) := fun o => (Below.refl _ _).alloc (Nat.le_refl _) o
  have HS : Hid (∀ i, i < n0 → (g0 i).size ≤ 1048576) := hs
  clear hs
  have hBad : Hid (∀ k, k < n0 → jpB (g0 k) = false → quB n0 g0 v1 = false) := by
    intro k hk hb
    have : jpAll g0 n0 = false := jpAll_false (k := k + 1) (by simp [jpAll, hb]) (by omega)
    simp [quB, this]
  obtain ⟨hsz, hz0 | ⟨b, off, rfl, hlt, hc⟩⟩ := h0
  · subst hz0
    clear hBad hsz
    by_cases hv : v1 = 0
    · subst hv
      have HX : Hid (quB 0 g0 0 = true) := rfl
      go_enter Tryd.func28, Tryd.ntmps28
      go_wp2_with fail
      refine Go.wp_loop_rounds 1 ?_
      rw [Go.rounds_succ]
      go_wp2_with fail
      go_ret
      exact ⟨by rw [HX.out]; first | rfl | simp [hv], HB0.out _⟩
    · have HX : Hid (quB 0 g0 v1 = false) := by show _ = _; simp [quB, hv]
      go_enter Tryd.func28, Tryd.ntmps28
      go_wp2_with fail
      refine Go.wp_loop_rounds 1 ?_
      rw [Go.rounds_succ]
      go_wp2_with fail
      go_ret
      exact ⟨by rw [HX.out]; first | rfl | simp [hv], HB0.out _⟩
  have HC : Hid (∀ o, ∀ i, i < n0 → (w.alloc o).cell? ⟨b, off + i, none⟩ = some (.string (g0 i))) := fun o i hi => (((Below.refl _ _).alloc (Nat.le_refl _) o).cell (p := ⟨b, off + i, none⟩) hlt).trans (hc i hi)
  clear hc hsz
  go_enter Tryd.func28, Tryd.ntmps28
  go_wp2_with fail
  go_loopw [3] (fun i wr => ∃ k : Nat, k ≤ n0 ∧ i = .int .i64 k ∧ Hid (jpAll g0 k = true) ∧ Below (w.heap.size + 1) (w.alloc (.cells #[.slice (some ⟨b, off, none⟩) n0 p0, .int .i64 v1] 45)) wr) (fun i _ => n0 - (intOf i).toNat)
  case atStart => exact ⟨0, by omega, rfl, rfl, Below.refl _ _⟩
  case round =>
    obtain ⟨k, hk, rfl, hx, hB⟩ := hrel
    have hhw : ∀ o i, o < w.heap.size + 1 → wr.cell? ⟨o, i, none⟩ = (w.alloc (.cells #[.slice (some ⟨b, off, none⟩) n0 p0, .int .i64 v1] 45)).cell? ⟨o, i, none⟩ := fun o i hi => hB.cell (p := ⟨o, i, none⟩) hi
    have kk0 : wr.cell? ⟨w.heap.size, 0, none⟩ = some (.slice (some ⟨b, off, none⟩) n0 p0) := by rw [hhw _ _ (by omega)]; exact cell_get (get_new rfl) rfl
    have kk1 : wr.cell? ⟨w.heap.size, 1, none⟩ = some (.int .i64 v1) := by rw [hhw _ _ (by omega)]; exact cell_get (get_new rfl) rfl
    have hzr : w.heap.size < wr.heap.size := by have := hB.size; simp at this; omega
    have HCW : Hid (∀ i, i < n0 → wr.cell? ⟨b, off + i, none⟩ = some (.string (g0 i))) := fun i hi => by rw [hhw _ _ (by omega)]; exact HC.out _ i hi
    have HB : Hid (Below w.heap.size w wr) := (HB0.out _).trans (hB.mono (by omega))
    have HBX : Hid (Below (w.heap.size + 1) (w.alloc (.cells #[.slice (some ⟨b, off, none⟩) n0 p0, .int .i64 v1] 45)) wr) := hB
    clear hB hhw
    by_cases hlt2 : k < n0
    · have hck := HCW.out k hlt2
      have hik : (k : Int) < (n0 : Int) := by omega
      have hsk := HS.out k hlt2
      cases hj : jpB (g0 k)
      · have HX : Hid _ := hBad.out k hlt2 hj
        go_wp2_with fail
        refine (specJust_any _ _ hsk).mono ?_
        rintro e w1 ⟨rfl, hb1⟩
        rw [hj]
        have HB1 : Hid (Below w.heap.size w w1) := HB.out.trans (hb1.mono HB.out.size)
        have HBX1 : Hid (Below (w.heap.size + 1) (w.alloc (.cells #[.slice (some ⟨b, off, none⟩) n0 p0, .int .i64 v1] 45)) w1) := HBX.out.trans (hb1.mono hzr)
        clear hb1 kk0 kk1 hck
        go_wp2_with fail
        go_ret
        exact ⟨by rw [HX.out]; rfl, HB1.out⟩
      · have HX : Hid (jpAll g0 (k + 1) = true) := by show _ = _; simp [jpAll, hx.out, hj]
        go_wp2_with fail
        refine (specJust_any _ _ hsk).mono ?_
        rintro e w1 ⟨rfl, hb1⟩
        rw [hj]
        have HB1 : Hid (Below w.heap.size w w1) := HB.out.trans (hb1.mono HB.out.size)
        have HBX1 : Hid (Below (w.heap.size + 1) (w.alloc (.cells #[.slice (some ⟨b, off, none⟩) n0 p0, .int .i64 v1] 45)) w1) := HBX.out.trans (hb1.mono hzr)
        clear hb1 kk0 kk1 hck
        go_wp2_with fail
        exact ⟨⟨k + 1, by omega, by go_num, HX.out, HBX1.out⟩, by simp [intOf]; omega⟩
    · obtain rfl : k = n0 := by omega
      by_cases hk0 : k = 0
      · subst hk0
        by_cases hv : v1 = 0
        · subst hv
          have HX : Hid (quB 0 g0 0 = true) := rfl
          go_wp2_with fail
          go_ret
          exact ⟨by rw [HX.out]; first | rfl | simp [hv], HB.out⟩
        · have HX : Hid (quB 0 g0 v1 = false) := by show _ = _; simp [quB, hv]
          go_wp2_with fail
          go_ret
          exact ⟨by rw [HX.out]; first | rfl | simp [hv], HB.out⟩
      have h0k : (0 : Int) < (k : Int) := by omega
      have hc0 : wr.cell? ⟨b, off, none⟩ = some (.string (g0 0)) := HCW.out 0 (by omega)
      have hs0 := HS.out 0 (by omega)
      have hp0 : 0 < (g0 0).size := jpB_pos (jpAll_at hx.out (by omega))
      by_cases h9 : (k : Int) ≤ 9
      · have HX : Hid (quB k g0 v1 = inB v1 0 (((g0 0).size : Int) - 1)) := by
          show _ = _
          have h9 : decide ((k : Int) ≤ 9) = true := by simp; omega
          simp only [quB, h9, hx.out, if_neg hk0, Bool.and_self, Bool.true_and]
        go_wp2_with fail
        go_quiet ((go_at_call 55; exact Calls.quiet_of_same (l1In_any _ _ _ _)))
        go_wp2_with fail
        go_ret
        exact ⟨by rw [HX.out]; rfl, belowN HB.out _⟩
      have hd9 : decide ((k : Int) ≤ 9) = false := by simp; omega
      have HX : Hid (quB k g0 v1 = false) := by
        show _ = _
        simp only [quB, hd9, Bool.false_and]
      go_wp2_with fail
      go_quiet (fail)
      go_wp2_with fail
      go_ret
      exact ⟨by rw [HX.out]; rfl, belowN HB.out _⟩
end Go.Proofs.YtgejiiaocgacmaaDoor
