/- impl.RulesLet. -/
import Derived.Test.YtfienpoebndfpaaRbN
import Derived.Deep.RegionHeld2
namespace Go.Proofs.Ytfienpoebndfpaa
open Go.ChangeShapes Go.WideShapes Go.ChangeAt Go.RowKit
set_option linter.unusedVariables false
def letV (m : Bool × Bool) (md : Int) : Bool := if md = 0 then m.1 else if md = 1 then m.2 else false
def letB (n : Nat) (f0 f1 f2 f3 : Nat → Int) (f4 f5 : Nat → Bool) (md c0 c2 c3 c4 : Int) : Bool := rulesB n f0 f1 f2 f3 && letV (rbGet (rbook f0 f1 f2 f3 f4 f5 n) (c2, c0, c3, c4)) md
theorem field_book (mb : Nat) (V : Value) (w : World) : (Instr.field 112 (.agg #[.map (some mb), V]) 0).run Try.prog w = .ok (.map (some mb)) w := by kernel_rfl
/-- newRuleBook, and the look-up in its answer. -/
theorem nrb_at (a : Option Addr) (n cap : Nat) (f0 f1 f2 f3 : Nat → Int) (f4 f5 : Nat → Bool) (w : World) (hn : n ≤ 12) (h : RuleS w a n f0 f1 f2 f3 f4 f5) (k0 k1 k2 k3 : Int) (m1 m2 : Bool) (hm : rbGet (rbook f0 f1 f2 f3 f4 f5 n) (k0, k1, k2, k3) = (m1, m2)) :
    Calls Try.prog 74 #[.slice a n cap] w fun e w' => ∃ mb V, e = .returned (.agg #[.map (some mb), V]) ∧ (Instr.lookup 109 (.map (some mb)) (.agg #[.int .i64 k0, .int .i64 k1, .int .i64 k2, .int .i64 k3]) false).run Try.prog w' = .ok (.agg #[.bool m1, .bool m2]) w' ∧ (∀ X, (Instr.lookup 109 (.map (some mb)) (.agg #[.int .i64 k0, .int .i64 k1, .int .i64 k2, .int .i64 k3]) false).run Try.prog (w'.alloc X) = .ok (.agg #[.bool m1, .bool m2]) (w'.alloc X)) ∧ Below w.heap.size w w' := by
  refine (newRuleBook_any a n cap f0 f1 f2 f3 f4 f5 w hn h).mono ?_
  rintro e w' ⟨mb, V, rfl, h1, _, _, hb⟩
  refine ⟨mb, V, rfl, ?_, fun X => ?_, hb⟩
  · have := rb_lookup h1 (k0, k1, k2, k3) false
    rw [hm] at this
    exact this
  · have := rb_lookup (h1.alloc X) (k0, k1, k2, k3) false
    rw [hm] at this
    exact this
set_option maxRecDepth 100000 in
set_option maxHeartbeats 2000000 in
theorem implRulesLet_any (a : Option Addr) (n cap : Nat) (f0 f1 f2 f3 : Nat → Int) (f4 f5 : Nat → Bool) (md c0 c1 c2 c3 c4 : Int) (x : ByteArray) (w : World) (hn : n ≤ maxLen) (h : RuleS w a n f0 f1 f2 f3 f4 f5) :
    Calls Try.prog 29 #[.slice a n cap, .int .i64 md, .agg #[.int .i64 c0, .int .i64 c1, .int .i64 c2, .int .i64 c3, .int .i64 c4, .string x]] w fun e w' => e = .returned (.bool (letB n f0 f1 f2 f3 f4 f5 md c0 c2 c3 c4)) ∧ Below w.heap.size w w' := by
  have hR := implRulesOk_any a n cap f0 f1 f2 f3 f4 f5 (w.alloc (.cells #[.int .i64 c0, .int .i64 c1, .int .i64 c2, .int .i64 c3, .int .i64 c4, .string x] 52)) hn (h.below ((Below.refl _ _).alloc (Nat.le_refl _) _))
  have HR : Hid _ := hR
  clear hR
  have HRB : Hid (rulesB n f0 f1 f2 f3 = true → n ≤ 12) := fun e => by simp [rulesB] at e; omega
  obtain ⟨rb, hrb⟩ : ∃ rb, rb = rulesB n f0 f1 f2 f3 := ⟨_, rfl⟩
  have HE : Hid (letB n f0 f1 f2 f3 f4 f5 md c0 c2 c3 c4 = (rb && letV (rbGet (rbook f0 f1 f2 f3 f4 f5 n) (c2, c0, c3, c4)) md)) := by show _ = _; rw [hrb]; rfl
  rw [← hrb] at HR HRB
  clear hrb
  generalize letB n f0 f1 f2 f3 f4 f5 md c0 c2 c3 c4 = LB at *
  go_enter Try.func29, Try.ntmps29
  go_wp2_with fail
  refine Calls.mono HR.out ?_
  rintro e w1 ⟨rfl, hb1⟩
  have HB1 : Hid (Below w.heap.size w w1) := ((Below.refl _ _).alloc (Nat.le_refl _) _).trans (hb1.mono (by simp))
  have HX1 : Hid (w1.heap[w.heap.size]? = some (.cells #[.int .i64 c0, .int .i64 c1, .int .i64 c2, .int .i64 c3, .int .i64 c4, .string x] 52)) := get_below hb1 (get_new rfl) (by simp)
  have HS1 : Hid (RuleS w1 a n f0 f1 f2 f3 f4 f5) := h.below HB1.out
  clear hb1 h HR
  cases rb
  · go_wp2_with fail
    go_ret
    exact ⟨by rw [HE.out]; rfl, HB1.out⟩
  have hn12 := HRB.out rfl
  obtain ⟨m1, m2, hmm⟩ : ∃ m1 m2, rbGet (rbook f0 f1 f2 f3 f4 f5 n) (c2, c0, c3, c4) = (m1, m2) := ⟨_, _, rfl⟩
  rw [hmm] at HE
  have HMM : Hid _ := hmm
  clear hmm
  have HE0 : Hid (md = 0 → LB = m1) := fun e => by rw [HE.out]; simp [letV, e]
  have HE1 : Hid (md ≠ 0 → md = 1 → LB = m2) := fun e0 e => by rw [HE.out]; simp [letV, e]
  have HE2 : Hid (md ≠ 0 → md ≠ 1 → LB = false) := fun e0 e => by rw [HE.out]; simp [letV, e0, e]
  clear HE
  have hxz := size_of_get HX1.out
  have S1 : (fun W : World => W.cell? ⟨w.heap.size, 0, none⟩ = some (.int .i64 c0) ∧ W.cell? ⟨w.heap.size, 2, none⟩ = some (.int .i64 c2) ∧ W.cell? ⟨w.heap.size, 3, none⟩ = some (.int .i64 c3) ∧ W.cell? ⟨w.heap.size, 4, none⟩ = some (.int .i64 c4)) w1 := by obtain ⟨x0, x1, x2, x3, x4, x5⟩ := cells6_of HX1.out; exact ⟨x0, x2, x3, x4⟩
  have KB : ∀ W : World, Below w1.heap.size w1 W → (fun W : World => W.cell? ⟨w.heap.size, 0, none⟩ = some (.int .i64 c0) ∧ W.cell? ⟨w.heap.size, 2, none⟩ = some (.int .i64 c2) ∧ W.cell? ⟨w.heap.size, 3, none⟩ = some (.int .i64 c3) ∧ W.cell? ⟨w.heap.size, 4, none⟩ = some (.int .i64 c4)) W := fun W hb => ⟨(hb.cell (p := ⟨w.heap.size, 0, none⟩) hxz).trans S1.1, (hb.cell (p := ⟨w.heap.size, 2, none⟩) hxz).trans S1.2.1, (hb.cell (p := ⟨w.heap.size, 3, none⟩) hxz).trans S1.2.2.1, (hb.cell (p := ⟨w.heap.size, 4, none⟩) hxz).trans S1.2.2.2⟩
  have KEEP : ∀ X, (fun W : World => W.cell? ⟨w.heap.size, 0, none⟩ = some (.int .i64 c0) ∧ W.cell? ⟨w.heap.size, 2, none⟩ = some (.int .i64 c2) ∧ W.cell? ⟨w.heap.size, 3, none⟩ = some (.int .i64 c3) ∧ W.cell? ⟨w.heap.size, 4, none⟩ = some (.int .i64 c4)) ((w1.alloc X).drew) := fun X => KB _ (Below.drew ((Below.refl _ _).alloc (Nat.le_refl _) _))
  have HKB : Hid (∀ W : World, Below w1.heap.size w1 W → (fun W : World => W.cell? ⟨w.heap.size, 0, none⟩ = some (.int .i64 c0) ∧ W.cell? ⟨w.heap.size, 2, none⟩ = some (.int .i64 c2) ∧ W.cell? ⟨w.heap.size, 3, none⟩ = some (.int .i64 c3) ∧ W.cell? ⟨w.heap.size, 4, none⟩ = some (.int .i64 c4)) W) := KB
  clear KB
  have HCB : Hid _ := nrb_at a n cap f0 f1 f2 f3 f4 f5 w1.drew hn12 HS1.out c2 c0 c3 c4 m1 m2 HMM.out
  have HCA : Hid _ := nrb_at a n cap f0 f1 f2 f3 f4 f5 (w1.alloc (.cells #[.bool false, .bool false] 108)).drew hn12 (HS1.out.below (Below.drew ((Below.refl _ _).alloc (Nat.le_refl _) _))) c2 c0 c3 c4 m1 m2 HMM.out
  obtain ⟨s0, s2, s3, s4⟩ := S1
  have hfd := field_book
  go_wp2_with fail
  go_region_held2 (fun W : World => W.cell? ⟨w.heap.size, 0, none⟩ = some (.int .i64 c0) ∧ W.cell? ⟨w.heap.size, 2, none⟩ = some (.int .i64 c2) ∧ W.cell? ⟨w.heap.size, 3, none⟩ = some (.int .i64 c3) ∧ W.cell? ⟨w.heap.size, 4, none⟩ = some (.int .i64 c4)) (first | with_reducible assumption | exact ⟨s0, s2, s3, s4⟩ | exact KEEP _ | exact KP2 _ | exact KP3 | exact KP4 _ _) (first
    | (go_at_call 74
       refine Calls.mono HCB.out ?_
       rintro e w2 ⟨mb, V, rfl, hl, hlx, hb⟩
       have HB2 : Hid (Below w1.heap.size w1 w2) := (Below.drew (Below.refl _ _)).trans hb
       clear hb
       have KP3 := HKB.out w2 HB2.out
       have KP2 := fun X => HKB.out (w2.alloc X) (HB2.out.alloc HB2.out.size X))
    | (go_at_call 74
       refine Calls.mono HCA.out ?_
       rintro e w2 ⟨mb, V, rfl, hl, hlx, hb⟩
       have HB2 : Hid (Below w1.heap.size w1 w2) := (Below.drew ((Below.refl _ _).alloc (Nat.le_refl _) _)).trans (hb.mono (by simp))
       have HZ2 : Hid (w2.heap[w1.heap.size]? = some (.cells #[.bool false, .bool false] 108)) := get_below hb (get_new rfl) (by simp)
       clear hb
       obtain ⟨z0, z1⟩ := cells2_of HZ2.out
       have zf : ∀ j, w2.frozen? ⟨w1.heap.size, j, none⟩ = false := fun j => frozen_get HZ2.out
       have KP3 := HKB.out w2 HB2.out
       have KP4 := fun u v => HKB.out ((w2.setCell ⟨w1.heap.size, 0, none⟩ u).setCell ⟨w1.heap.size, 1, none⟩ v) (belowS (belowS HB2.out (Nat.le_refl _)) (Nat.le_refl _))))
  all_goals first
    | (have HF : Hid (Below w.heap.size w ((w2.setCell ⟨w1.heap.size, 0, none⟩ (.bool m1)).setCell ⟨w1.heap.size, 1, none⟩ (.bool m2))) := HB1.out.trans ((belowS (belowS HB2.out (Nat.le_refl _)) (Nat.le_refl _)).mono HB1.out.size)
       have HM : Hid (((w2.setCell ⟨w1.heap.size, 0, none⟩ (.bool m1)).setCell ⟨w1.heap.size, 1, none⟩ (.bool m2)).heap[w1.heap.size]? = some (.cells #[.bool m1, .bool m2] 108)) := get_set (get_set HZ2.out rfl) rfl
       clear KP4 KP3 hlx hl HB2 HZ2 z0 z1 zf
       generalize ((w2.setCell ⟨w1.heap.size, 0, none⟩ (.bool m1)).setCell ⟨w1.heap.size, 1, none⟩ (.bool m2)) = wf at *
       obtain ⟨y0, y1⟩ := cells2_of HM.out
       by_cases h0 : md = 0
       · have HL : Hid _ := HE0.out h0
         subst h0
         go_wp2_with fail
         go_ret
         exact ⟨by rw [HL.out]; rfl, HF.out⟩
       by_cases h1 : md = 1
       · have HL : Hid _ := HE1.out h0 h1
         subst h1
         go_wp2_with fail
         go_ret
         exact ⟨by rw [HL.out]; rfl, HF.out⟩
       have HL : Hid _ := HE2.out h0 h1
       have d0 : (md == 0) = false := by simp [h0]
       have d1 : (md == 1) = false := by simp [h1]
       go_wp2_with fail
       go_ret
       exact ⟨by rw [HL.out]; rfl, HF.out⟩)
    | (have HF : Hid (Below w.heap.size w (w2.alloc (.cells #[.bool m1, .bool m2] 108))) := HB1.out.trans ((HB2.out.alloc HB2.out.size _).mono HB1.out.size)
       have HM : Hid ((w2.alloc (.cells #[.bool m1, .bool m2] 108)).heap[w2.heap.size]? = some (.cells #[.bool m1, .bool m2] 108)) := get_new rfl
       clear KP2 KP3 hlx hl HB2
       generalize (w2.alloc (.cells #[.bool m1, .bool m2] 108)) = wf at *
       obtain ⟨y0, y1⟩ := cells2_of HM.out
       by_cases h0 : md = 0
       · have HL : Hid _ := HE0.out h0
         subst h0
         go_wp2_with fail
         go_ret
         exact ⟨by rw [HL.out]; rfl, HF.out⟩
       by_cases h1 : md = 1
       · have HL : Hid _ := HE1.out h0 h1
         subst h1
         go_wp2_with fail
         go_ret
         exact ⟨by rw [HL.out]; rfl, HF.out⟩
       have HL : Hid _ := HE2.out h0 h1
       have d0 : (md == 0) = false := by simp [h0]
       have d1 : (md == 1) = false := by simp [h1]
       go_wp2_with fail
       go_ret
       exact ⟨by rw [HL.out]; rfl, HF.out⟩)
end Go.Proofs.Ytfienpoebndfpaa
