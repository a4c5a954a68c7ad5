/- A row of rules of the call's own. -/
import Derived.Test.YtfienpoebndfpaaSlRule
import Derived.Test.YtfienpoebndfpaaOwn
import Derived.Test.YtfienpoebndfpaaCellsN
import Derived.Test.YtfienpoebndfpaaDrawT
import Derived.Test.YtfienpoebndfpaaDrX
import Derived.Test.YtfienpoebndfpaaDrawG
namespace Go.Proofs.Ytfienpoebndfpaa
open Go.ChangeShapes Go.WideShapes Go.ChangeAt Go.RowKit
set_option linter.unusedVariables false
/-- n rules at the block b, of the call's own. -/
def RuR (w : World) (base b n cap : Nat) : Prop := ∃ cur : Array Value, base ≤ b ∧ w.heap[b]? = some (.cells cur 60) ∧ n ≤ cap ∧ cap ≤ maxLen ∧ cur.size = cap * 6 ∧ ∀ i, i < n → ∃ (v0 v1 v2 v3 : Int) (v4 v5 : Bool), cur[i * 6]? = some (.int .i64 v0) ∧ cur[i * 6 + 1]? = some (.int .i64 v1) ∧ cur[i * 6 + 2]? = some (.int .i64 v2) ∧ cur[i * 6 + 3]? = some (.int .i64 v3) ∧ cur[i * 6 + 4]? = some (.bool v4) ∧ cur[i * 6 + 5]? = some (.bool v5)
theorem RuR.new (w : World) {base : Nat} (h : base ≤ w.heap.size) : RuR (w.alloc (.cells #[] 60)) base w.heap.size 0 0 :=
  ⟨#[], h, get_new rfl, Nat.le_refl _, by unfold maxLen; omega, rfl, fun q hq => by omega⟩
theorem RuR.lt {w : World} {base b n cap : Nat} (h : RuR w base b n cap) : base ≤ b ∧ b < w.heap.size := by
  obtain ⟨cur, h1, h2, _⟩ := h
  exact ⟨h1, size_of_get h2⟩
theorem RuR.only {w w' : World} {base b n cap g : Nat} (h : RuR w base b n cap) (k : Only g w w') (hg : g < base) : RuR w' base b n cap := by
  obtain ⟨cur, h1, h2, h3⟩ := h
  exact ⟨cur, h1, get_only k h2 (by omega), h3⟩
theorem RuR.below {w w' : World} {base b n cap : Nat} (h : RuR w base b n cap) (k : Below w.heap.size w w') : RuR w' base b n cap := by
  obtain ⟨cur, h1, h2, h3⟩ := h
  exact ⟨cur, h1, get_below k h2 (size_of_get h2), h3⟩
theorem RuR.alloc {w : World} {base b n cap : Nat} (h : RuR w base b n cap) (o : Obj) : RuR (w.alloc o) base b n cap := by
  obtain ⟨cur, h1, h2, h3⟩ := h
  exact ⟨cur, h1, get_alloc h2 (size_of_get h2), h3⟩
theorem RuR.rules {w : World} {base b n cap : Nat} (h : RuR w base b n cap) : ∃ (f0 f1 f2 f3 : Nat → Int) (f4 f5 : Nat → Bool), RuleS w (some ⟨b, 0, none⟩) n f0 f1 f2 f3 f4 f5 := by
  have hlt := h.lt
  obtain ⟨cur, h1, h2, h3, h4, h5, h6⟩ := h
  refine ⟨fun i => match cur[i * 6]? with | some (.int .i64 z) => z | _ => 0, fun i => match cur[i * 6 + 1]? with | some (.int .i64 z) => z | _ => 0, fun i => match cur[i * 6 + 2]? with | some (.int .i64 z) => z | _ => 0, fun i => match cur[i * 6 + 3]? with | some (.int .i64 z) => z | _ => 0, fun i => match cur[i * 6 + 4]? with | some (.bool z) => z | _ => false, fun i => match cur[i * 6 + 5]? with | some (.bool z) => z | _ => false, .inr ⟨b, 0, rfl, hlt.2, fun i hi => ?_⟩⟩
  obtain ⟨v0, v1, v2, v3, v4, v5, g0, g1, g2, g3, g4, g5⟩ := h6 i hi
  simp only [Nat.zero_add, g0, g1, g2, g3, g4, g5]
  exact ⟨cell_get h2 g0, cell_get h2 g1, cell_get h2 g2, cell_get h2 g3, cell_get h2 g4, cell_get h2 g5⟩
theorem cinfoRu : ∃ i, Try.prog.info? 60 = some i ∧ i.zero = some (.agg #[.int .i64 0, .int .i64 0, .int .i64 0, .int .i64 0, .bool false, .bool false]) ∧ i.size = 6 ∧ i.bytes ≤ 256 := by
  have h : (Try.prog.info? 60).map (fun i => (i.zero, i.size, decide (i.bytes ≤ 256))) = some (some (.agg #[.int .i64 0, .int .i64 0, .int .i64 0, .int .i64 0, .bool false, .bool false]), 6, true) := by kernel_rfl
  obtain ⟨i, hi, hz⟩ := Option.map_eq_some_iff.1 h
  simp only [Prod.mk.injEq, decide_eq_true_eq] at hz
  exact ⟨i, hi, hz.1, hz.2.1, hz.2.2⟩
set_option maxHeartbeats 1000000 in
theorem RuR.append {w : World} {base b n cap s : Nat} {v0 v1 v2 v3 : Int} {v4 v5 : Bool} (hn : n ≤ 4194303) (h : RuR w base b n cap) (hs : w.heap[s]? = some (.cells #[.int .i64 v0, .int .i64 v1, .int .i64 v2, .int .i64 v3, .bool v4, .bool v5] 60)) :
    ∃ b' cap' w', (Builtin.append_ #[30, 30] 30 #[.slice (some ⟨b, 0, none⟩) n cap, .slice (some ⟨s, 0, none⟩) 1 1]).run Try.prog w = .ok (.slice (some ⟨b', 0, none⟩) (n + 1) cap') w' ∧ RuR w' base b' (n + 1) cap' ∧ w.grownBy w' (some b) := by
  obtain ⟨i0, hi, hz0, hz1, hz2⟩ := cinfoRu
  have hbt : (n + 1) * i0.bytes ≤ 140737488355328 := by
    have := Nat.mul_le_mul (show n + 1 ≤ 4194304 by omega) hz2
    omega
  obtain ⟨hb1, hb2⟩ := h.lt
  obtain ⟨cur, h1, h2, h3, h4, h5, h6⟩ := h
  have hown : w.ownsRow base 60 6 (.slice (some ⟨b, 0, none⟩) n cap) n (cur.toList.take (n * 6)) := ⟨by simp [h5]; omega, .inr ⟨b, cap, cur, rfl, h1, h2, h3, h4, h5, rfl⟩⟩
  have hnews : ∀ j u, ([.int .i64 v0, .int .i64 v1, .int .i64 v2, .int .i64 v3, .bool v4, .bool v5] : List Value)[j]? = some u → w.cell? ((⟨s, 0, none⟩ : Addr).add j) = some u := by
    intro j u hj
    have hadd : (⟨s, 0, none⟩ : Addr).add j = ⟨s, j, none⟩ := by unfold Addr.add; split <;> simp_all
    rw [hadd]
    exact cell_get hs (by simpa using hj)
  have hone : ∀ u ∈ ([.int .i64 v0, .int .i64 v1, .int .i64 v2, .int .i64 v3, .bool v4, .bool v5] : List Value), u.oneCell' = true := by
    intro u hu
    simp at hu
    rcases hu with rfl | rfl | rfl | rfl | rfl | rfl <;> rfl
  obtain ⟨v', w', hr, ho, hg, hnil⟩ := run_append_own (P := Try.prog) w base 30 30 60 i0 (.agg #[.int .i64 0, .int .i64 0, .int .i64 0, .int .i64 0, .bool false, .bool false]) 6 i0.bytes Try.underlying30 hi hz0 hz1 rfl rfl (by decide) (.slice (some ⟨b, 0, none⟩) n cap) n _ hown ⟨s, 0, none⟩ 1 1 [.int .i64 v0, .int .i64 v1, .int .i64 v2, .int .i64 v3, .bool v4, .bool v5] rfl hnews hone (by unfold maxLen; omega) hbt (by omega)
  obtain ⟨hl, hr2⟩ := ho
  rcases hr2 with ⟨_, e⟩ | ⟨b', cap', cur', rfl, k1, k2, k3, k4, k5, k6⟩
  · omega
  refine ⟨b', cap', w', hr, ⟨cur', k1, k2, k3, k4, k5, fun i hi => ?_⟩, hg⟩
  have e : ∀ q, q < (n + 1) * 6 → cur'[q]? = (cur.toList.take (n * 6) ++ [.int .i64 v0, .int .i64 v1, .int .i64 v2, .int .i64 v3, .bool v4, .bool v5])[q]? := by
    intro q hq
    rw [← k6, List.getElem?_take_of_lt hq]; simp
  have hlen : (cur.toList.take (n * 6)).length = n * 6 := by simp [h5]; omega
  by_cases hin : i < n
  · obtain ⟨a0, a1, a2, a3, a4, a5, g0, g1, g2, g3, g4, g5⟩ := h6 i hin
    have e2 : ∀ q, q < n * 6 → cur'[q]? = cur[q]? := by
      intro q hq
      rw [e q (by omega), List.getElem?_append_left (by omega), List.getElem?_take_of_lt hq]; simp
    exact ⟨a0, a1, a2, a3, a4, a5, by rw [e2 _ (by omega)]; exact g0, by rw [e2 _ (by omega)]; exact g1, by rw [e2 _ (by omega)]; exact g2, by rw [e2 _ (by omega)]; exact g3, by rw [e2 _ (by omega)]; exact g4, by rw [e2 _ (by omega)]; exact g5⟩
  · obtain rfl : i = n := by omega
    have e3 : ∀ j, j < 6 → cur'[i * 6 + j]? = ([.int .i64 v0, .int .i64 v1, .int .i64 v2, .int .i64 v3, .bool v4, .bool v5] : List Value)[j]? := by
      intro j hj
      have hs : i * 6 + j - i * 6 = j := by omega
      rw [e _ (by omega), List.getElem?_append_right (by omega), hlen, hs]
    exact ⟨v0, v1, v2, v3, v4, v5, (e3 0 (by omega)), e3 1 (by omega), e3 2 (by omega), e3 3 (by omega), e3 4 (by omega), e3 5 (by omega)⟩
theorem only_grownU {g b : Nat} {w wr w' : World} (h : Only g w wr) (hg : wr.grownBy w' (some b)) (hb : w.heap.size ≤ b) : Only g w w' :=
  only_grown h hg fun k e => by cases e; exact hb
end Go.Proofs.Ytfienpoebndfpaa
