/- spec.RulesLet: by lists. -/
import Derived.Test.YtfienpoebndfpaaRbL
import Derived.Test.YtfienpoebndfpaaQuB
namespace Go.Proofs.Ytfienpoebndfpaa
open Go.ChangeShapes Go.WideShapes Go.ChangeAt Go.RowKit
set_option linter.unusedVariables false
def ofB (v0 v1 v2 v3 c0 c2 c3 c4 : Int) : Bool := (v0 == c2) && (v1 == c0) && (v2 == c3) && (v3 == c4)
set_option maxHeartbeats 2000000 in
theorem l8Of_any (v0 v1 v2 v3 : Int) (v4 v5 : Bool) (c0 c1 c2 c3 c4 : Int) (x : ByteArray) (w : World) :
    Calls Try.prog 114 #[.agg #[.int .i64 v0, .int .i64 v1, .int .i64 v2, .int .i64 v3, .bool v4, .bool v5], .agg #[.int .i64 c0, .int .i64 c1, .int .i64 c2, .int .i64 c3, .int .i64 c4, .string x]] w fun e w' => e = .returned (.bool (ofB v0 v1 v2 v3 c0 c2 c3 c4)) ∧ Below w.heap.size w w' := by
  have HBH : Hid (∀ o o', Below w.heap.size w ((w.alloc o).alloc o')) := fun o o' => ((Below.refl _ _).alloc (Nat.le_refl _) o).alloc (by simp) o'
  cases h0 : (v0 == c2) <;> cases h1 : (v1 == c0) <;> cases h2 : (v2 == c3) <;> cases h3 : (v3 == c4)
  all_goals
    have HE : Hid _ := show ofB v0 v1 v2 v3 c0 c2 c3 c4 = _ by simp only [ofB, h0, h1, h2, h3]; rfl
    go_enter Try.func114, Try.ntmps114
    go_wp2_with fail
    go_ret
    exact ⟨by rw [HE.out]; rfl, HBH.out _ _⟩
section
variable (f0 f1 f2 f3 : Nat → Int) (f4 f5 : Nat → Bool) (md c0 c2 c3 c4 : Int)
def itB (k : Nat) : Bool := ofB (f0 k) (f1 k) (f2 k) (f3 k) c0 c2 c3 c4 && ((md == 0) && f4 k || (md == 1) && f5 k)
end
theorem orL_true {g : Nat → Bool} {k n : Nat} (h : g k = true) (hk : k < n) : orL g n = true := by
  induction n with
  | zero => omega
  | succ n ih =>
    simp only [orL]
    by_cases e : k = n
    · subst e; simp [h]
    · rw [ih (by omega)]; rfl
set_option maxRecDepth 100000 in
set_option maxHeartbeats 4000000 in
theorem l8Let_any (a : Option Addr) (n cap : Nat) (f0 f1 f2 f3 : Nat → Int) (f4 f5 : Nat → Bool) (md c0 c1 c2 c3 c4 : Int) (x : ByteArray) (w : World) (hn : n ≤ maxLen) (h : RuleS w a n f0 f1 f2 f3 f4 f5) :
    Calls Try.prog 72 #[.slice a n cap, .int .i64 md, .agg #[.int .i64 c0, .int .i64 c1, .int .i64 c2, .int .i64 c3, .int .i64 c4, .string x]] w fun e w' => e = .returned (.bool (orL (itB f0 f1 f2 f3 f4 f5 md c0 c2 c3 c4) n)) ∧ Below w.heap.size w w' := by
  unfold maxLen at hn
  have HIT : Hid (∀ k, itB f0 f1 f2 f3 f4 f5 md c0 c2 c3 c4 k = (ofB (f0 k) (f1 k) (f2 k) (f3 k) c0 c2 c3 c4 && ((md == 0) && f4 k || (md == 1) && f5 k))) := fun k => rfl
  generalize itB f0 f1 f2 f3 f4 f5 md c0 c2 c3 c4 = it at *
  have HX0 : Hid ((w.alloc (.cells #[.int .i64 c0, .int .i64 c1, .int .i64 c2, .int .i64 c3, .int .i64 c4, .string x] 52)).heap[w.heap.size]? = some (.cells #[.int .i64 c0, .int .i64 c1, .int .i64 c2, .int .i64 c3, .int .i64 c4, .string x] 52)) := get_new rfl
  have HB0 : Hid (Below w.heap.size w (w.alloc (.cells #[.int .i64 c0, .int .i64 c1, .int .i64 c2, .int .i64 c3, .int .i64 c4, .string x] 52))) := (Below.refl _ _).alloc (Nat.le_refl _) _
  have HR : Hid (RuleS w a n f0 f1 f2 f3 f4 f5) := h
  clear h
  go_enter Try.func72, Try.ntmps72
  go_wp2_with fail
  generalize w.alloc (.cells #[.int .i64 c0, .int .i64 c1, .int .i64 c2, .int .i64 c3, .int .i64 c4, .string x] 52) = w0 at *
  go_loopw [7] (fun i wr => ∃ k : Nat, k ≤ n ∧ i = .int .i64 k ∧ Hid (orL it k = false) ∧ Hid (wr.heap[w.heap.size]? = some (.cells #[.int .i64 c0, .int .i64 c1, .int .i64 c2, .int .i64 c3, .int .i64 c4, .string x] 52)) ∧ Hid (Below w.heap.size w wr)) (fun i _ => n - (intOf i).toNat)
  case atStart => exact ⟨0, by omega, rfl, rfl, HX0, HB0⟩
  case round =>
    obtain ⟨k, hk, rfl, hx, HX, HB⟩ := hrel
    by_cases hlt2 : k < n
    · rcases HR.out with h0 | ⟨b, off, rfl, hlt, hc⟩
      · omega
      have hhw : ∀ q, wr.cell? ⟨b, q, none⟩ = w.cell? ⟨b, q, none⟩ := fun q => HB.out.cell (p := ⟨b, q, none⟩) hlt
      have hck := hc k hlt2
      simp only [← hhw] at hck
      obtain ⟨k0, k1, k2, k3, k4, k5⟩ := hck
      have hik : (k : Int) < (n : Int) := by omega
      have hik0 : (0 : Int) ≤ (k : Int) := by omega
      clear hhw hc
      have hT := HIT.out k
      generalize f0 k = v0 at *
      generalize f1 k = v1 at *
      generalize f2 k = v2 at *
      generalize f3 k = v3 at *
      generalize f4 k = p at *
      generalize f5 k = s at *
      have HL : Hid _ := fun W => l8Of_any v0 v1 v2 v3 p s c0 c1 c2 c3 c4 x W
      obtain ⟨y0, y1, y2, y3, y4, y5⟩ := cells6_of HX.out
      have hbz : b < wr.heap.size := Nat.lt_of_lt_of_le hlt HB.out.size
      have hxz := size_of_get HX.out
      have d0 := Bl.cell k0 hbz
      have d1 := Bl.cell k1 hbz
      have d2 := Bl.cell k2 hbz
      have d3 := Bl.cell k3 hbz
      have d4 := Bl.cell k4 hbz
      have d5 := Bl.cell k5 hbz
      have x0 := Bl.cell y0 hxz
      have x1 := Bl.cell y1 hxz
      have x2 := Bl.cell y2 hxz
      have x3 := Bl.cell y3 hxz
      have x4 := Bl.cell y4 hxz
      have x5 := Bl.cell y5 hxz
      clear k0 k1 k2 k3 k4 k5 y0 y1 y2 y3 y4 y5
      generalize ofB v0 v1 v2 v3 c0 c2 c3 c4 = ob at *
      have HT : Hid _ := hT
      clear hT
      cases ob
      · have HE : Hid (orL it (k + 1) = false) := by show _ = _; simp only [orL, hx.out, HT.out]; rfl
        clear HT
        go_wp2_with fail
        refine wp_region_bl (by kernel_rfl) (by kernel_rfl) ?_
        repeat (go_big_quiet_step ((first | (go_at_call 114; exact calls_bl (HL.out _)))))
        refine wpQuiet_nil ?_
        intro w8 hw8
        obtain ⟨⟨w8, hb8⟩, rfl⟩ := hw8
        have HB8 : Hid (Below w.heap.size w w8) := HB.out.trans (hb8.mono HB.out.size)
        have HX8 : Hid (w8.heap[w.heap.size]? = some (.cells #[.int .i64 c0, .int .i64 c1, .int .i64 c2, .int .i64 c3, .int .i64 c4, .string x] 52)) := get_below hb8 HX.out hxz
        clear hb8 d0 d1 d2 d3 d4 d5 x0 x1 x2 x3 x4 x5
        go_wp2_with fail
        exact ⟨⟨k + 1, by omega, by go_num, HE, HX8, HB8⟩, by simp [intOf]; omega⟩
      · cases e0 : (md == 0) <;> cases e1 : (md == 1) <;> cases p <;> cases s
        all_goals
          first
          | (have HE : Hid (orL it (k + 1) = false) := (show orL it (k + 1) = false by simp only [orL, hx.out, HT.out, e0, e1]; rfl)
             clear HT
             go_wp2_with fail
             refine wp_region_bl (by kernel_rfl) (by kernel_rfl) ?_
             repeat (go_big_quiet_step ((first | (go_at_call 114; exact calls_bl (HL.out _)))))
             refine wpQuiet_nil ?_
             intro w8 hw8
             obtain ⟨⟨w8, hb8⟩, rfl⟩ := hw8
             have HB8 : Hid (Below w.heap.size w w8) := HB.out.trans (hb8.mono HB.out.size)
             have HX8 : Hid (w8.heap[w.heap.size]? = some (.cells #[.int .i64 c0, .int .i64 c1, .int .i64 c2, .int .i64 c3, .int .i64 c4, .string x] 52)) := get_below hb8 HX.out hxz
             clear hb8 d0 d1 d2 d3 d4 d5 x0 x1 x2 x3 x4 x5
             go_wp2_with fail
             exact ⟨⟨k + 1, by omega, by go_num, HE, HX8, HB8⟩, by simp [intOf]; omega⟩)
          | (have HE : Hid (orL it n = true) := orL_true (show it k = true by rw [HT.out, e0, e1]; rfl) hlt2
             clear HT
             go_wp2_with fail
             refine wp_region_bl (by kernel_rfl) (by kernel_rfl) ?_
             repeat (go_big_quiet_step ((first | (go_at_call 114; exact calls_bl (HL.out _)))))
             refine wpQuiet_nil ?_
             intro w8 hw8
             obtain ⟨⟨w8, hb8⟩, rfl⟩ := hw8
             have HB8 : Hid (Below w.heap.size w w8) := HB.out.trans (hb8.mono HB.out.size)
             have HX8 : Hid (w8.heap[w.heap.size]? = some (.cells #[.int .i64 c0, .int .i64 c1, .int .i64 c2, .int .i64 c3, .int .i64 c4, .string x] 52)) := get_below hb8 HX.out hxz
             clear hb8 d0 d1 d2 d3 d4 d5 x0 x1 x2 x3 x4 x5
             go_wp2_with fail
             go_ret
             exact ⟨by rw [HE.out]; rfl, HB8.out⟩)
    · obtain rfl : k = n := by omega
      go_wp2_with fail
      go_ret
      exact ⟨by rw [hx.out]; rfl, HB.out⟩
theorem orL_split (f0 f1 f2 f3 : Nat → Int) (f4 f5 : Nat → Bool) (md c0 c2 c3 c4 : Int) (n : Nat) : letV (rbGet (rbook f0 f1 f2 f3 f4 f5 n) (c2, c0, c3, c4)) md = orL (itB f0 f1 f2 f3 f4 f5 md c0 c2 c3 c4) n := by
  rw [rbook_get]
  have key : ∀ i, decide (rkey f0 f1 f2 f3 i = (c2, c0, c3, c4)) = ofB (f0 i) (f1 i) (f2 i) (f3 i) c0 c2 c3 c4 := by
    intro i
    simp only [rkey, ofB, Prod.mk.injEq]
    by_cases h0 : f0 i = c2 <;> by_cases h1 : f1 i = c0 <;> by_cases h2 : f2 i = c3 <;> by_cases h3 : f3 i = c4 <;> simp [h0, h1, h2, h3]
  simp only [key]
  induction n with
  | zero => simp [letV, orL]
  | succ n ih =>
    simp only [orL, ← ih, itB]
    unfold letV
    by_cases h0 : md = 0
    · subst h0; simp
    · by_cases h1 : md = 1
      · subst h1; simp
      · simp [h0, h1]
set_option maxHeartbeats 2000000 in
theorem specRulesLet_any (a : Option Addr) (n cap : Nat) (f0 f1 f2 f3 : Nat → Int) (f4 f5 : Nat → Bool) (md c0 c1 c2 c3 c4 : Int) (x : ByteArray) (w : World) (hn : n ≤ maxLen) (h : RuleS w a n f0 f1 f2 f3 f4 f5) :
    Calls Try.prog 26 #[.slice a n cap, .int .i64 md, .agg #[.int .i64 c0, .int .i64 c1, .int .i64 c2, .int .i64 c3, .int .i64 c4, .string x]] w fun e w' => e = .returned (.bool (letB n f0 f1 f2 f3 f4 f5 md c0 c2 c3 c4)) ∧ Below w.heap.size w w' := by
  have hR := specRulesOk_any a n cap f0 f1 f2 f3 f4 f5 (w.alloc (.cells #[.int .i64 c0, .int .i64 c1, .int .i64 c2, .int .i64 c3, .int .i64 c4, .string x] 52)) hn (h.below ((Below.refl _ _).alloc (Nat.le_refl _) _))
  have HR : Hid _ := hR
  clear hR
  have HL : Hid (∀ W, Below w.heap.size w W → _) := fun W hb => l8Let_any a n cap f0 f1 f2 f3 f4 f5 md c0 c1 c2 c3 c4 x W hn (h.below hb)
  have HE : Hid (letB n f0 f1 f2 f3 f4 f5 md c0 c2 c3 c4 = (rulesB n f0 f1 f2 f3 && orL (itB f0 f1 f2 f3 f4 f5 md c0 c2 c3 c4) n)) := by
    show _ = _; rw [← orL_split]; rfl
  generalize letB n f0 f1 f2 f3 f4 f5 md c0 c2 c3 c4 = LB at *
  generalize rulesB n f0 f1 f2 f3 = rb at *
  generalize orL (itB f0 f1 f2 f3 f4 f5 md c0 c2 c3 c4) n = lb at *
  go_enter Try.func26, Try.ntmps26
  go_wp2_with fail
  refine Calls.mono HR.out ?_
  rintro e w1 ⟨rfl, hb1⟩
  have HB1 : Hid (Below w.heap.size w w1) := ((Below.refl _ _).alloc (Nat.le_refl _) _).trans (hb1.mono (by simp))
  have HX1 : Hid (w1.heap[w.heap.size]? = some (.cells #[.int .i64 c0, .int .i64 c1, .int .i64 c2, .int .i64 c3, .int .i64 c4, .string x] 52)) := get_below hb1 (get_new rfl) (by simp)
  clear hb1
  obtain ⟨y0, y1, y2, y3, y4, y5⟩ := cells6_of HX1.out
  cases rb
  · go_wp2_with fail
    go_ret
    exact ⟨by rw [HE.out]; rfl, HB1.out⟩
  · go_wp2_with fail
    refine Calls.mono (HL.out _ HB1.out) ?_
    rintro e w2 ⟨rfl, hb2⟩
    have HB2 : Hid (Below w.heap.size w w2) := HB1.out.trans (hb2.mono HB1.out.size)
    clear hb2 y0 y1 y2 y3 y4 y5
    go_wp2_with fail
    go_ret
    exact ⟨by rw [HE.out]; rfl, HB2.out⟩
end Go.Proofs.Ytfienpoebndfpaa
