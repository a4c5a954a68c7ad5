/- Code blocks end somewhere. -/
import Derived.Test.YthhibeepfecmdaaCltG
namespace Go.Proofs.Ythhibeepfecmdaa
theorem stop_ex (t : ByteArray) : ∃ k, stopB t k := by
  have key : ∀ n, (∃ k, stopB t k) ∨ (∀ j, j < n → goodB t j = true) := by
    intro n
    induction n with
    | zero => exact .inr fun j hj => by omega
    | succ n ih =>
      rcases ih with h | h
      · exact .inl h
      · by_cases h9 : n ≤ 9
        · cases hg : goodB t n
          · exact .inl ⟨n, ⟨h9, h⟩, .inl hg⟩
          · by_cases e : n = 9
            · exact .inl ⟨n, ⟨h9, h⟩, .inr e⟩
            · refine .inr fun j hj => ?_
              rcases Nat.lt_or_ge j n with q | q
              · exact h j q
              · obtain rfl : j = n := by omega
                exact hg
        · exact .inl ⟨9, ⟨Nat.le_refl _, fun j hj => h j (by omega)⟩, .inr rfl⟩
  rcases key 10 with h | h
  · exact h
  · exact ⟨9, ⟨Nat.le_refl _, fun j hj => h j (by omega)⟩, .inr rfl⟩
end Go.Proofs.Ythhibeepfecmdaa
