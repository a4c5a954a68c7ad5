/- impl.newRuleBook. -/
import Derived.Test.YtfienpoebndfpaaRbW
namespace Go.Proofs.Ytfienpoebndfpaa
open Go.ChangeShapes Go.WideShapes Go.ChangeAt Go.RowKit
set_option linter.unusedVariables false
theorem cellsRB : (Try.prog.info? 112).map (·.size) = some 2 := by kernel_rfl
theorem own_mono {w : World} {B B' n : Nat} {e : TypeId} {sz : Nat} {v : Value} {xs : List Value} (h : w.ownsRow B e sz v n xs) (hb : B' ≤ B) : w.ownsRow B' e sz v n xs := by
  obtain ⟨h1, h2⟩ := h
  refine ⟨h1, ?_⟩
  rcases h2 with h3 | ⟨g, c, cur, h3, h4, h5, h6⟩
  · exact .inl h3
  · exact .inr ⟨g, c, cur, h3, Nat.le_trans hb h4, h5, h6⟩
set_option maxRecDepth 100000 in
set_option maxHeartbeats 2000000 in
theorem newRuleBook_any (a : Option Addr) (n cap : Nat) (f0 f1 f2 f3 : Nat → Int) (f4 f5 : Nat → Bool) (w : World) (hn : n ≤ 12) (h : RuleS w a n f0 f1 f2 f3 f4 f5) :
    Calls Try.prog 74 #[.slice a n cap] w fun e w' => ∃ mb V, e = .returned (.agg #[.map (some mb), V]) ∧ RbMap w' mb (rbook f0 f1 f2 f3 f4 f5 n) ∧ w'.ownsRow w.heap.size 115 4 V (rbook f0 f1 f2 f3 f4 f5 n).length (keyCells (rbook f0 f1 f2 f3 f4 f5 n)) ∧ w.heap.size ≤ mb ∧ Below w.heap.size w w' := by
  have hmk := run_makeMap_plain (P := Try.prog) (w := w.alloc (.cells #[.map none, .slice none 0 0] 112)) 109
  have H1 : Hid (RuleS w a n f0 f1 f2 f3 f4 f5) := h
  clear h
  have HLEN : Hid (∀ k, (rbook f0 f1 f2 f3 f4 f5 k).length ≤ k) := rbook_len f0 f1 f2 f3 f4 f5
  obtain ⟨bk, hbk⟩ : ∃ bk, bk = rbook f0 f1 f2 f3 f4 f5 := ⟨_, rfl⟩
  rw [← hbk] at HLEN ⊢
  have HS : Hid (∀ k, bk (k + 1) = if f4 k || f5 k then rbAdd (bk k) (f0 k, f1 k, f2 k, f3 k) (f4 k) (f5 k) else bk k) := by
    intro k; rw [hbk]; rfl
  have HZ : Hid (bk 0 = []) := by show _ = _; rw [hbk]; rfl
  clear hbk
  go_enter Try.func74, Try.ntmps74
  go_wp2_with fail
  clear hmk
  have HR0 : Hid ((((w.alloc (.cells #[.map none, .slice none 0 0] 112)).alloc (.map #[] 0)).alloc (.cells #[.map (some (w.heap.size + 1)), .slice none 0 0] 112)).heap[w.heap.size]? = some (.cells #[.map none, .slice none 0 0] 112)) := get_alloc (get_alloc (get_new rfl) (by simp)) (by simp; omega)
  have HG0 : Hid ((((w.alloc (.cells #[.map none, .slice none 0 0] 112)).alloc (.map #[] 0)).alloc (.cells #[.map (some (w.heap.size + 1)), .slice none 0 0] 112)).heap[w.heap.size + 1 + 1]? = some (.cells #[.map (some (w.heap.size + 1)), .slice none 0 0] 112)) := get_new (by simp)
  have HM0 : Hid (RbMap (((w.alloc (.cells #[.map none, .slice none 0 0] 112)).alloc (.map #[] 0)).alloc (.cells #[.map (some (w.heap.size + 1)), .slice none 0 0] 112)) (w.heap.size + 1) []) := get_alloc (get_new (by simp)) (by simp)
  have HB0 : Hid (Below w.heap.size w (((w.alloc (.cells #[.map none, .slice none 0 0] 112)).alloc (.map #[] 0)).alloc (.cells #[.map (some (w.heap.size + 1)), .slice none 0 0] 112))) := (((Below.refl _ _).alloc (Nat.le_refl _) _).alloc (by simp) _).alloc (by simp; omega) _
  generalize ((w.alloc (.cells #[.map none, .slice none 0 0] 112)).alloc (.map #[] 0)).alloc (.cells #[.map (some (w.heap.size + 1)), .slice none 0 0] 112) = w0 at *
  have hn' : n ≤ maxLen := by unfold maxLen; omega
  go_loopw [10] (fun i wr => ∃ (k : Nat) (V : Value), k ≤ n ∧ i = .int .i64 k ∧ Hid (wr.heap[w.heap.size]? = some (.cells #[.map none, .slice none 0 0] 112)) ∧ Hid (wr.heap[w.heap.size + 1 + 1]? = some (.cells #[.map (some (w.heap.size + 1)), V] 112)) ∧ Hid (RbMap wr (w.heap.size + 1) (bk k)) ∧ Hid (wr.ownsRow (w.heap.size + 1) 115 4 V (bk k).length (keyCells (bk k))) ∧ Hid (Below w.heap.size w wr)) (fun i _ => n - (intOf i).toNat)
  case atStart => exact ⟨0, .slice none 0 0, by omega, rfl, HR0, HG0, by rw [HZ.out]; exact HM0, by rw [HZ.out]; exact World.ownsRow_nil .., HB0⟩
  case round =>
    obtain ⟨k, V, hk, rfl, HR, HG, HM, HO, HB⟩ := hrel
    by_cases hlt2 : k < n
    · rcases H1.out with h0 | ⟨b, off, rfl, hlt, hc⟩
      · omega
      have hhw : ∀ q, wr.cell? ⟨b, q, none⟩ = w.cell? ⟨b, q, none⟩ := fun q => HB.out.cell (p := ⟨b, q, none⟩) hlt
      have hck := hc k hlt2
      simp only [← hhw] at hck
      obtain ⟨c0, c1, c2, c3, c4, c5⟩ := hck
      have hik : (k : Int) < (n : Int) := by omega
      clear hhw hc
      have hHS := HS.out k
      generalize f0 k = v0 at *
      generalize f1 k = v1 at *
      generalize f2 k = v2 at *
      generalize f3 k = v3 at *
      generalize f4 k = p at *
      generalize f5 k = s at *
      have HSK : Hid _ := hHS
      clear hHS
      have HBx : Hid (∀ o, Below w.heap.size w (wr.alloc o)) := fun o => HB.out.alloc HB.out.size o
      cases p <;> cases s
      · have HE : Hid (bk (k + 1) = bk k) := HSK.out
        go_wp2_with fail
        exact ⟨⟨k + 1, V, by omega, by go_num, get_alloc HR.out (size_of_get HR.out), get_alloc HG.out (size_of_get HG.out), by rw [HE.out]; exact HM.out.alloc _, by rw [HE.out]; exact own_kept HO.out ((Below.refl _ _).alloc (Nat.le_refl _) _), HBx.out _⟩, by simp [intOf]; omega⟩
      all_goals
        have HE : Hid _ := HSK.out
        have HA := fun bb oo => add_any (w.heap.size + 1 + 1) (w.heap.size + 1) (bk k) V (w.heap.size + 1) v0 v1 v2 v3 bb oo (wr.alloc (.cells #[.int .i64 v0, .int .i64 v1, .int .i64 v2, .int .i64 v3, .bool bb, .bool oo] 60)) (get_alloc HG.out (size_of_get HG.out)) (HM.out.alloc _) (own_kept HO.out ((Below.refl _ _).alloc (Nat.le_refl _) _)) (by omega) (by omega) (by have := HLEN.out k; omega)
        have HAA : Hid _ := HA
        clear HA
        have hR1 : Hid (∀ o, (wr.alloc o).heap[w.heap.size]? = some (.cells #[.map none, .slice none 0 0] 112)) := fun o => get_alloc HR.out (size_of_get HR.out)
        go_wp2_with fail
        refine Calls.mono (HAA.out _ _) ?_
        rintro e w1 ⟨rfl, V', hg1, hm1, ho1, hb1⟩
        have HG2 : Hid _ := hg1
        have HM2 : Hid _ := hm1
        have HO2 : Hid _ := ho1
        have HR2 : Hid (w1.heap[w.heap.size]? = some (.cells #[.map none, .slice none 0 0] 112)) := get_below hb1 (hR1.out _) (by omega)
        have HB2 : Hid (Below w.heap.size w w1) := (HBx.out _).trans (hb1.mono (by omega))
        clear hg1 hm1 ho1 hb1
        go_wp2_with fail
        exact ⟨⟨k + 1, V', by omega, by go_num, HR2, HG2, by rw [HE.out]; exact HM2, by rw [HE.out]; exact HO2, HB2⟩, by simp [intOf]; omega⟩
    · obtain rfl : k = n := by omega
      obtain ⟨va, vc, rfl, _⟩ := own_slice HO.out
      obtain ⟨rc0, rc1⟩ := cells2_of HR.out
      obtain ⟨gc0, gc1⟩ := cells2_of HG.out
      have hrz := size_of_get HR.out
      have hfr : ∀ j, wr.frozen? ⟨w.heap.size, j, none⟩ = false := fun j => frozen_get HR.out
      go_wp2_with fail
      have HR3 : ((wr.setCell ⟨w.heap.size, 0, none⟩ (.map (some (w.heap.size + 1)))).setCell ⟨w.heap.size, 1, none⟩ (.slice va (bk k).length vc)).heap[w.heap.size]? = some (.cells #[.map (some (w.heap.size + 1)), .slice va (bk k).length vc] 112) := get_set (get_set HR.out rfl) rfl
      refine bodyPost_ret (v := .agg #[.map (some (w.heap.size + 1)), .slice va (bk k).length vc]) (results_cell_row Try.results74 _ _ w.heap.size 112 #[.map (some (w.heap.size + 1)), .slice va (bk k).length vc] (0, 0) _ rfl HR3 Try.underlying112 rfl cellsRB) rfl ?_
      refine ⟨_, _, rfl, (HM.out.set (by omega)).set (by omega), ?_, by omega, belowS (belowS HB.out (Nat.le_refl _)) (Nat.le_refl _)⟩
      have := own_set_tag (j := 1) (x := .slice va (bk k).length vc) (own_set_tag (j := 0) (x := .map (some (w.heap.size + 1))) HO.out HR.out (by decide)) (get_set HR.out rfl) (by decide)
      exact own_mono this (by omega)
end Go.Proofs.Ytfienpoebndfpaa
