/- Rules as a row of cells; a list appended to nothing, and one rule more. -/
import Derived.Test.YtfienpoebndfpaaRuR
namespace Go.Proofs.Ytfienpoebndfpaa
open Go.ChangeShapes Go.WideShapes Go.ChangeAt Go.RowKit
set_option linter.unusedVariables false
section
variable (f0 f1 f2 f3 : Nat → Int) (f4 f5 : Nat → Bool)
def ruV (i : Nat) : List Value := [.int .i64 (f0 i), .int .i64 (f1 i), .int .i64 (f2 i), .int .i64 (f3 i), .bool (f4 i), .bool (f5 i)]
def ruXs : Nat → List Value
  | 0 => []
  | n + 1 => ruXs n ++ ruV f0 f1 f2 f3 f4 f5 n
theorem ruXs_len (n : Nat) : (ruXs f0 f1 f2 f3 f4 f5 n).length = n * 6 := by
  induction n with
  | zero => rfl
  | succ n ih => simp [ruXs, ih, ruV]; omega
theorem ruXs_get {n i r : Nat} (hi : i < n) (hr : r < 6) : (ruXs f0 f1 f2 f3 f4 f5 n)[i * 6 + r]? = (ruV f0 f1 f2 f3 f4 f5 i)[r]? := by
  induction n with
  | zero => omega
  | succ n ih =>
    simp only [ruXs]
    by_cases h : i < n
    · rw [List.getElem?_append_left (by rw [ruXs_len]; omega)]; exact ih h
    · obtain rfl : i = n := by omega
      have hs : i * 6 + r - i * 6 = r := by omega
      rw [List.getElem?_append_right (by rw [ruXs_len]; omega), ruXs_len, hs]
theorem ruXs_one {n : Nat} : ∀ u ∈ ruXs f0 f1 f2 f3 f4 f5 n, u.oneCell' = true := by
  induction n with
  | zero => intro u hu; cases hu
  | succ n ih =>
    intro u hu
    rcases List.mem_append.1 hu with h | h
    · exact ih u h
    · simp only [ruV, List.mem_cons, List.not_mem_nil, or_false] at h
      rcases h with rfl | rfl | rfl | rfl | rfl | rfl <;> rfl
end
theorem ruXs_congr {f0 f1 f2 f3 g0 g1 g2 g3 : Nat → Int} {f4 f5 g4 g5 : Nat → Bool} {n : Nat} (h : ∀ i, i < n → f0 i = g0 i ∧ f1 i = g1 i ∧ f2 i = g2 i ∧ f3 i = g3 i ∧ f4 i = g4 i ∧ f5 i = g5 i) : ruXs f0 f1 f2 f3 f4 f5 n = ruXs g0 g1 g2 g3 g4 g5 n := by
  induction n with
  | zero => rfl
  | succ n ih =>
    obtain ⟨h0, h1, h2, h3, h4, h5⟩ := h n (by omega)
    simp only [ruXs, ruV, ih (fun i hi => h i (by omega)), h0, h1, h2, h3, h4, h5]
theorem rule_cells {W : World} {b n k : Nat} {f0 f1 f2 f3 : Nat → Int} {f4 f5 : Nat → Bool} (h : RuleS W (some ⟨b, 0, none⟩) n f0 f1 f2 f3 f4 f5) (hk : k < n) :
    W.cell? ⟨b, k * 6, none⟩ = some (.int .i64 (f0 k)) ∧ W.cell? ⟨b, k * 6 + 1, none⟩ = some (.int .i64 (f1 k)) ∧ W.cell? ⟨b, k * 6 + 2, none⟩ = some (.int .i64 (f2 k)) ∧ W.cell? ⟨b, k * 6 + 3, none⟩ = some (.int .i64 (f3 k)) ∧ W.cell? ⟨b, k * 6 + 4, none⟩ = some (.bool (f4 k)) ∧ W.cell? ⟨b, k * 6 + 5, none⟩ = some (.bool (f5 k)) := by
  rcases h with h0 | ⟨b', off, he, hl, hc⟩
  · omega
  · cases he
    have := hc k hk
    rw [Nat.zero_add] at this
    exact this
theorem ruXs_news {W : World} {b n : Nat} {f0 f1 f2 f3 : Nat → Int} {f4 f5 : Nat → Bool} (h : RuleS W (some ⟨b, 0, none⟩) n f0 f1 f2 f3 f4 f5) :
    ∀ j u, (ruXs f0 f1 f2 f3 f4 f5 n)[j]? = some u → W.cell? ((⟨b, 0, none⟩ : Addr).add j) = some u := by
  intro j u hu
  have hadd : (⟨b, 0, none⟩ : Addr).add j = ⟨b, j, none⟩ := by unfold Addr.add; split <;> simp_all
  rw [hadd]
  have hj : j < n * 6 := by
    rcases Nat.lt_or_ge j (n * 6) with h | h
    · exact h
    · rw [List.getElem?_eq_none (by rw [ruXs_len]; exact h)] at hu; cases hu
  obtain ⟨i, r, rfl, hr⟩ : ∃ i r, j = i * 6 + r ∧ r < 6 := ⟨j / 6, j % 6, by omega, by omega⟩
  have hi : i < n := by omega
  rw [ruXs_get _ _ _ _ _ _ hi hr] at hu
  obtain ⟨q0, q1, q2, q3, q4, q5⟩ := rule_cells h hi
  have hr6 : r = 0 ∨ r = 1 ∨ r = 2 ∨ r = 3 ∨ r = 4 ∨ r = 5 := by omega
  rcases hr6 with rfl | rfl | rfl | rfl | rfl | rfl <;> (simp [ruV] at hu; subst hu; assumption)
theorem own_rules {w : World} {B n : Nat} {v : Value} {f0 f1 f2 f3 : Nat → Int} {f4 f5 : Nat → Bool} (h : w.ownsRow B 60 6 v n (ruXs f0 f1 f2 f3 f4 f5 n)) :
    ∃ a c, v = .slice a n c ∧ RuleS w a n f0 f1 f2 f3 f4 f5 := by
  rcases h.2 with ⟨rfl, h0⟩ | ⟨g, c, cur, rfl, h4, h5, h6, h7, h8, h9⟩
  · subst h0
    exact ⟨none, 0, rfl, .inl rfl⟩
  · refine ⟨_, c, rfl, .inr ⟨g, 0, rfl, size_of_get h5, fun i hi => ?_⟩⟩
    have e : ∀ r, r < 6 → cur[i * 6 + r]? = (ruV f0 f1 f2 f3 f4 f5 i)[r]? := by
      intro r hr
      rw [← ruXs_get f0 f1 f2 f3 f4 f5 hi hr, ← h9, List.getElem?_take_of_lt (by omega)]; simp
    rw [Nat.zero_add]
    exact ⟨cell_get h5 (e 0 (by omega)), cell_get h5 (e 1 (by omega)), cell_get h5 (e 2 (by omega)), cell_get h5 (e 3 (by omega)), cell_get h5 (e 4 (by omega)), cell_get h5 (e 5 (by omega))⟩
/-- A list of rules appended to an empty row. -/
theorem append_all {W : World} {b n cp d : Nat} {f0 f1 f2 f3 : Nat → Int} {f4 f5 : Nat → Bool} (hn : n ≤ 100) (h : RuleS W (some ⟨b, 0, none⟩) n f0 f1 f2 f3 f4 f5) (hd : W.heap[d]? = some (.cells #[] 60)) :
    ∃ v' w', (Builtin.append_ #[30, 30] 30 #[.slice (some ⟨d, 0, none⟩) 0 0, .slice (some ⟨b, 0, none⟩) n cp]).run Try.prog W = .ok v' w' ∧ w'.ownsRow d 60 6 v' n (ruXs f0 f1 f2 f3 f4 f5 n) ∧ W.grownBy w' (some d) := by
  obtain ⟨i0, hi, hz0, hz1, hz2⟩ := cinfoRu
  have hown : W.ownsRow d 60 6 (.slice (some ⟨d, 0, none⟩) 0 0) 0 [] := ⟨rfl, .inr ⟨d, 0, #[], rfl, Nat.le_refl _, hd, Nat.le_refl _, by unfold maxLen; omega, rfl, rfl⟩⟩
  have hbt : (0 + n) * i0.bytes ≤ 140737488355328 := by
    have := Nat.mul_le_mul (show 0 + n ≤ 100 by omega) hz2
    omega
  obtain ⟨v', w', hr, ho, hg, _⟩ := run_append_own (P := Try.prog) W d 30 30 60 i0 (.agg #[.int .i64 0, .int .i64 0, .int .i64 0, .int .i64 0, .bool false, .bool false]) 6 i0.bytes Try.underlying30 hi hz0 hz1 rfl rfl (by decide) (.slice (some ⟨d, 0, none⟩) 0 0) 0 _ hown ⟨b, 0, none⟩ n cp (ruXs f0 f1 f2 f3 f4 f5 n) (ruXs_len _ _ _ _ _ _ n) (ruXs_news h) (ruXs_one _ _ _ _ _ _) (by unfold maxLen; omega) hbt (by have := size_of_get hd; omega)
  rw [Nat.zero_add, List.nil_append] at ho
  exact ⟨v', w', hr, ho, hg⟩
/-- One rule more. -/
theorem append_one6 {W : World} {n B s : Nat} {v : Value} {f0 f1 f2 f3 : Nat → Int} {f4 f5 : Nat → Bool} (hn : n ≤ 100) (ho : W.ownsRow B 60 6 v n (ruXs f0 f1 f2 f3 f4 f5 n)) (hB : B ≤ W.heap.size) (v0 v1 v2 v3 : Int) (v4 v5 : Bool) (hs : W.heap[s]? = some (.cells #[.int .i64 v0, .int .i64 v1, .int .i64 v2, .int .i64 v3, .bool v4, .bool v5] 60)) :
    ∃ v' w', (Builtin.append_ #[30, 30] 30 #[v, .slice (some ⟨s, 0, none⟩) 1 1]).run Try.prog W = .ok v' w' ∧ w'.ownsRow B 60 6 v' (n + 1) (ruXs (fun i => if i < n then f0 i else v0) (fun i => if i < n then f1 i else v1) (fun i => if i < n then f2 i else v2) (fun i => if i < n then f3 i else v3) (fun i => if i < n then f4 i else v4) (fun i => if i < n then f5 i else v5) (n + 1)) ∧ W.grownBy w' v.ownBlock := by
  obtain ⟨i0, hi, hz0, hz1, hz2⟩ := cinfoRu
  have hnews : ∀ j u, ([.int .i64 v0, .int .i64 v1, .int .i64 v2, .int .i64 v3, .bool v4, .bool v5] : List Value)[j]? = some u → W.cell? ((⟨s, 0, none⟩ : Addr).add j) = some u := by
    intro j u hj
    have hadd : (⟨s, 0, none⟩ : Addr).add j = ⟨s, j, none⟩ := by unfold Addr.add; split <;> simp_all
    rw [hadd]
    exact cell_get hs (by simpa using hj)
  have hone : ∀ u ∈ ([.int .i64 v0, .int .i64 v1, .int .i64 v2, .int .i64 v3, .bool v4, .bool v5] : List Value), u.oneCell' = true := by
    intro u hu
    simp at hu
    rcases hu with rfl | rfl | rfl | rfl | rfl | rfl <;> rfl
  have hbt : (n + 1) * i0.bytes ≤ 140737488355328 := by
    have := Nat.mul_le_mul (show n + 1 ≤ 101 by omega) hz2
    omega
  obtain ⟨v', w', hr, ho2, hg, _⟩ := run_append_own (P := Try.prog) W B 30 30 60 i0 (.agg #[.int .i64 0, .int .i64 0, .int .i64 0, .int .i64 0, .bool false, .bool false]) 6 i0.bytes Try.underlying30 hi hz0 hz1 rfl rfl (by decide) v n _ ho ⟨s, 0, none⟩ 1 1 [.int .i64 v0, .int .i64 v1, .int .i64 v2, .int .i64 v3, .bool v4, .bool v5] rfl hnews hone (by unfold maxLen; omega) hbt hB
  refine ⟨v', w', hr, ?_, hg⟩
  have e : ruXs (fun i => if i < n then f0 i else v0) (fun i => if i < n then f1 i else v1) (fun i => if i < n then f2 i else v2) (fun i => if i < n then f3 i else v3) (fun i => if i < n then f4 i else v4) (fun i => if i < n then f5 i else v5) n = ruXs f0 f1 f2 f3 f4 f5 n := ruXs_congr fun i hi => by simp [hi]
  simp only [ruXs]
  rw [e]
  simpa [ruV] using ho2
end Go.Proofs.Ytfienpoebndfpaa
