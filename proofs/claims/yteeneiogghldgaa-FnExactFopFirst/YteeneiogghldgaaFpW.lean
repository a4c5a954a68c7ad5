/- Who sends: laws.szFop, laws.toFop, laws.eqFop, and FopOk, both sides. -/
import Derived.Test.YteeneiogghldgaaTxS
import Derived.Test.YteeneiogghldgaaFr
namespace Go.Proofs.Yteeneiogghldgaa
open Go.ChangeShapes Go.WideShapes Go.ChangeAt Go.RowKit
set_option linter.unusedVariables false

theorem cellsFop : (Try.prog.info? 54).map (·.size) = some 5 := by kernel_rfl
set_option maxHeartbeats 1000000 in
theorem szFop_any (c v x : Int) (a : Option Addr) (n cap : Nat) (f : Nat → ByteArray) (s : Bool) (w : World) (hn : n ≤ maxLen) (h : Txt w a n f) :
    Calls Try.prog 33 #[.agg #[.int .i64 c, .int .i64 v, .int .i64 x, .slice a n cap, .bool s], .int .i64 1048576] w fun e w' => ∃ r : Int, (0 ≤ r → n ≤ 1048576 ∧ ∀ i, i < n → (f i).size ≤ 1048576) ∧ e = .returned (.int .i64 r) ∧ Below w.heap.size w w' := by
  have HT : Hid (∀ o, Txt (w.alloc o) a n f) := fun o => h.alloc o
  have HBH : Hid (∀ o, Below w.heap.size w (w.alloc o)) := fun o => (Below.refl _ _).alloc (Nat.le_refl _) o
  clear h
  go_enter Try.func33, Try.ntmps33
  go_wp2_with fail
  refine (szStringS_any a n cap f _ hn (HT.out _)).mono ?_
  rintro e w1 ⟨r, hr, rfl, rfl⟩
  have HR : Hid _ := hr
  clear hr
  by_cases h0 : r < 0
  · go_wp2_with fail
    go_ret
    exact ⟨-1, fun h => by omega, rfl, HBH.out _⟩
  · go_wp2_with fail
    go_ret
    exact ⟨r, HR.out, rfl, HBH.out _⟩
set_option maxHeartbeats 2000000 in
theorem toFop_any (c v x : Int) (a : Option Addr) (n cap : Nat) (f : Nat → ByteArray) (s : Bool) (w : World) (hn : n ≤ 1048576) (h : Txt w a n f) :
    Calls Try.prog 35 #[.agg #[.int .i64 c, .int .i64 v, .int .i64 x, .slice a n cap, .bool s]] w fun e w' => ∃ b, w.heap.size ≤ b ∧ e = .returned (.agg #[.int .i64 c, .int .i64 v, .int .i64 x, .slice (some ⟨b, 0, none⟩) n n, .bool s]) ∧ Txt w' (some ⟨b, 0, none⟩) n f ∧ Below w.heap.size w w' := by
  have HT : Hid (Txt (((w.alloc (.cells #[.int .i64 c, .int .i64 v, .int .i64 x, .slice a n cap, .bool s] 51)).alloc (.cells #[.int .i64 0, .int .i64 0, .int .i64 0, .slice none 0 0, .bool false] 54)).alloc (.cells #[.int .i64 c, .int .i64 v, .int .i64 x, .slice none 0 0, .bool false] 54)) a n f) := ((h.alloc _).alloc _).alloc _
  have HB0 : Hid (Below w.heap.size w (((w.alloc (.cells #[.int .i64 c, .int .i64 v, .int .i64 x, .slice a n cap, .bool s] 51)).alloc (.cells #[.int .i64 0, .int .i64 0, .int .i64 0, .slice none 0 0, .bool false] 54)).alloc (.cells #[.int .i64 c, .int .i64 v, .int .i64 x, .slice none 0 0, .bool false] 54))) := (((Below.refl _ _).alloc (Nat.le_refl _) _).alloc (by simp) _).alloc (by simp; omega) _
  have hG1 : (((w.alloc (.cells #[.int .i64 c, .int .i64 v, .int .i64 x, .slice a n cap, .bool s] 51)).alloc (.cells #[.int .i64 0, .int .i64 0, .int .i64 0, .slice none 0 0, .bool false] 54)).alloc (.cells #[.int .i64 c, .int .i64 v, .int .i64 x, .slice none 0 0, .bool false] 54)).heap[w.heap.size + 1]? = some (.cells #[.int .i64 0, .int .i64 0, .int .i64 0, .slice none 0 0, .bool false] 54) := get_alloc (get_new (by simp)) (by simp)
  have hG2 : (((w.alloc (.cells #[.int .i64 c, .int .i64 v, .int .i64 x, .slice a n cap, .bool s] 51)).alloc (.cells #[.int .i64 0, .int .i64 0, .int .i64 0, .slice none 0 0, .bool false] 54)).alloc (.cells #[.int .i64 c, .int .i64 v, .int .i64 x, .slice none 0 0, .bool false] 54)).heap[w.heap.size + 2]? = some (.cells #[.int .i64 c, .int .i64 v, .int .i64 x, .slice none 0 0, .bool false] 54) := get_new (by simp)
  have HG1 : Hid _ := hG1
  have HG2 : Hid _ := hG2
  clear h hG1 hG2
  go_enter Try.func35, Try.ntmps35
  go_wp2_with fail
  refine (toStringS_any a n cap f _ hn HT.out).mono ?_
  rintro e w1 ⟨rfl, ht1, hb1⟩
  have HT1 : Hid (Txt w1 (some ⟨w.heap.size + 1 + 1 + 1, 0, none⟩) n f) := by show Txt w1 _ n f; have := ht1; simp only [World.size_alloc] at this; exact this
  have HB1 : Hid (Below w.heap.size w w1) := HB0.out.trans (hb1.mono HB0.out.size)
  have HQ1 : Hid (w1.heap[w.heap.size + 1]? = some (.cells #[.int .i64 0, .int .i64 0, .int .i64 0, .slice none 0 0, .bool false] 54)) := get_below hb1 HG1.out (size_of_get HG1.out)
  have HQ2 : Hid (w1.heap[w.heap.size + 2]? = some (.cells #[.int .i64 c, .int .i64 v, .int .i64 x, .slice none 0 0, .bool false] 54)) := get_below hb1 HG2.out (size_of_get HG2.out)
  obtain ⟨hc, hf⟩ := bcell0 hb1
  have hz : w.heap.size + 2 < w1.heap.size := size_of_get HQ2.out
  clear hb1 ht1
  go_wp2_with fail
  refine bodyPost_ret (v := .agg #[.int .i64 c, .int .i64 v, .int .i64 x, .slice (some ⟨w.heap.size + 1 + 1 + 1, 0, none⟩) n n, .bool s]) (results_cell_row Try.results35 _ _ (w.heap.size + 1) 54 #[.int .i64 c, .int .i64 v, .int .i64 x, .slice (some ⟨w.heap.size + 1 + 1 + 1, 0, none⟩) n n, .bool s] (0, 0) _ rfl ?_ Try.underlying54 rfl cellsFop) rfl ⟨w.heap.size + 1 + 1 + 1, by omega, rfl, ?_, ?_⟩
  · exact get_set (get_set (get_set (get_set (get_set (get_set_ne (get_set_ne HQ1.out (by omega)) (by omega)) rfl) rfl) rfl) rfl) rfl
  · exact ((((((HT1.out.set (by omega)).set (by omega)).set (by omega)).set (by omega)).set (by omega)).set (by omega)).set (by omega)
  · exact belowS (belowS (belowS (belowS (belowS (belowS (belowS HB1.out (by omega)) (by omega)) (by omega)) (by omega)) (by omega)) (by omega)) (by omega)
def txB (f : Nat → ByteArray) : Nat → Bool
  | 0 => true
  | k + 1 => txB f k && inB ((f k).size : Nat) 1 53
theorem txB_false {f : Nat → ByteArray} {k n : Nat} (h : txB f k = false) (hn : k ≤ n) : txB f n = false := by
  induction n with
  | zero => obtain rfl : k = 0 := by omega
            exact h
  | succ n ih =>
    by_cases e : k = n + 1
    · subst e; exact h
    · simp [txB, ih (by omega)]
def fopB (c v x : Int) (n : Nat) (f : Nat → ByteArray) : Bool := decide ((n : Int) ≤ 4) && txB f n && (inB c 0 1023 && inB v 0 63 && inB x 0 255)
set_option maxHeartbeats 2000000 in
theorem eqFop_any (c v x : Int) (a a' : Option Addr) (n cap cap' : Nat) (f : Nat → ByteArray) (s : Bool) (w : World) (hn : n ≤ maxLen) (h : Txt w a n f) (h' : Txt w a' n f) :
    Calls Try.prog 37 #[.agg #[.int .i64 c, .int .i64 v, .int .i64 x, .slice a n cap, .bool s], .agg #[.int .i64 c, .int .i64 v, .int .i64 x, .slice a' n cap', .bool s]] w fun e w' => e = .returned (.bool true) ∧ Below w.heap.size w w' := by
  have HT : Hid (∀ o o', Txt ((w.alloc o).alloc o') a n f) := fun o o' => (h.alloc o).alloc o'
  have HT' : Hid (∀ o o', Txt ((w.alloc o).alloc o') a' n f) := fun o o' => (h'.alloc o).alloc o'
  have HBH : Hid (∀ o o', Below w.heap.size w ((w.alloc o).alloc o')) := fun o o' => ((Below.refl _ _).alloc (Nat.le_refl _) o).alloc (by simp) o'
  clear h h'
  go_enter Try.func37, Try.ntmps37
  go_wp2_with fail
  refine (eqStringS_any a a' n cap cap' f _ hn (HT.out _ _) (HT'.out _ _)).mono ?_
  rintro e w1 ⟨rfl, m, rfl⟩
  go_wp2_with fail
  go_ret
  exact ⟨rfl, belowN (HBH.out _ _) m⟩
set_option maxRecDepth 100000 in
set_option maxHeartbeats 4000000 in
theorem implFopOk_any (c v x : Int) (a : Option Addr) (n cap : Nat) (f : Nat → ByteArray) (s : Bool) (w : World) (hn : n ≤ maxLen) (h : Txt w a n f) :
    Calls Try.prog 36 #[.agg #[.int .i64 c, .int .i64 v, .int .i64 x, .slice a n cap, .bool s]] w fun e w' => e = .returned (.bool (fopB c v x n f)) ∧ Below w.heap.size w w' := by
  have HBH : Hid (∀ o, Below w.heap.size w (w.alloc o)) := fun o => (Below.refl _ _).alloc (Nat.le_refl _) o
  unfold maxLen at hn
  by_cases hbig : (4 : Int) < n
  · have HX : Hid (fopB c v x n f = false) := by show _ = _; simp [fopB]; intro h; omega
    clear h
    go_enter Try.func36, Try.ntmps36
    go_wp2_with fail
    go_ret
    exact ⟨by rw [HX.out]; rfl, HBH.out _⟩
  have hEnd : Hid (∀ b1 b2 b3 : Bool, inB c 0 1023 = b1 → inB v 0 63 = b2 → inB x 0 255 = b3 → txB f n = true → fopB c v x n f = (b1 && b2 && b3)) := by
    intro b1 b2 b3 h1 h2 h3 h4
    have : decide ((n : Int) ≤ 4) = true := by simp; omega
    simp only [fopB, h1, h2, h3, h4, this, Bool.true_and, Bool.and_true]
  have hBad : Hid (∀ k, k < n → inB ((f k).size : Nat) 1 53 = false → fopB c v x n f = false) := by
    intro k hk hb
    have : txB f n = false := txB_false (k := k + 1) (by simp [txB, hb]) (by omega)
    simp [fopB, this]
  obtain ⟨hsz, h0 | ⟨b, off, rfl, hlt, hc⟩⟩ := h
  · subst h0
    cases h1 : inB c 0 1023 <;> cases h2 : inB v 0 63 <;> cases h3 : inB x 0 255
    all_goals
      have HE := hEnd.out _ _ _ h1 h2 h3 rfl
      go_enter Try.func36, Try.ntmps36
      go_wp2_with fail
      refine Go.wp_loop_rounds 1 ?_
      rw [Go.rounds_succ]
      go_wp2_with (go_at_call 52; refine (upTo_any _ _ _).mono ?_; rintro e w' ⟨rfl, rfl⟩)
      go_ret
      exact ⟨by rw [HE]; rfl, HBH.out _⟩
  have HS : Hid _ := hsz
  have HC : Hid (∀ o, ∀ i, i < n → (w.alloc o).cell? ⟨b, off + i, none⟩ = some (.string (f i))) := fun o i hi => (((Below.refl _ _).alloc (Nat.le_refl _) o).cell (p := ⟨b, off + i, none⟩) hlt).trans (hc i hi)
  clear hsz hc
  go_enter Try.func36, Try.ntmps36
  go_wp2_with fail
  go_loop [12] (fun i => ∃ k : Nat, k ≤ n ∧ i = .int .i64 k ∧ Hid (txB f k = true)) (fun i => n - (intOf i).toNat)
  case atStart => exact ⟨0, by omega, rfl, rfl⟩
  case round =>
    obtain ⟨k, hk, rfl, hx⟩ := hrel
    by_cases hlt2 : k < n
    · have hck := HC.out (.cells #[.int .i64 c, .int .i64 v, .int .i64 x, .slice (some ⟨b, off, none⟩) n cap, .bool s] 54) k hlt2
      have hsk := HS.out k hlt2
      cases hb : inB ((f k).size : Nat) 1 53
      · have HE := hBad.out k hlt2 hb
        have HEE : Hid _ := HE
        clear HE
        go_wp2_with (go_at_call 63; refine (frameDataOk_any _ _ hsk).mono ?_; rintro e w' ⟨rfl, rfl⟩)
        go_ret
        exact ⟨by rw [HEE.out]; rfl, HBH.out _⟩
      · have HEE : Hid (txB f (k + 1) = true) := by show _ = _; simp [txB, hb, hx.out]
        go_wp2_with (go_at_call 63; refine (frameDataOk_any _ _ hsk).mono ?_; rintro e w' ⟨rfl, rfl⟩)
        exact ⟨⟨k + 1, by omega, by go_num, HEE.out⟩, by simp [intOf]; omega⟩
    · obtain rfl : k = n := by omega
      cases h1 : inB c 0 1023 <;> cases h2 : inB v 0 63 <;> cases h3 : inB x 0 255
      all_goals
        have HE : Hid _ := hEnd.out _ _ _ h1 h2 h3 hx.out
        go_wp2_with (go_at_call 52; refine (upTo_any _ _ _).mono ?_; rintro e w' ⟨rfl, rfl⟩)
        go_ret
        exact ⟨by rw [HE.out]; rfl, HBH.out _⟩
end Go.Proofs.Yteeneiogghldgaa
