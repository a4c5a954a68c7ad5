/- More of what FarmHear comes to: a frame in order. -/
import Derived.Test.YtfojljhpobdcdaaFaL
namespace Go.Proofs.Ytfojljhpobdcdaa
open Go.RowKit
set_option linter.unusedVariables false
theorem fr_gov {g : Bool} {cr v q : Int} {d : ByteArray} (h : frOk false g cr v q d = true) : g = false := by
  simp only [frOk, Bool.and_eq_true, Bool.false_or] at h
  simpa using h.2
theorem fr_num {p g : Bool} {cr v q : Int} {d : ByteArray} (h : frOk p g cr v q d = true) : 0 ≤ cr ∧ cr ≤ 1023 ∧ 0 ≤ v ∧ v ≤ 63 ∧ 0 ≤ q ∧ q ≤ 255 := by
  obtain ⟨h1, h2, h3⟩ := fr_parts h
  simp [inB] at h1 h2 h3
  omega
theorem ord_not {s wt ag room : Bool} {c n q : Int} (hn : 0 ≤ n ∧ n ≤ 255) (hq : 0 ≤ q ∧ q ≤ 255) (hs : s = false) (hT : ¬ (q = n ∧ wt = false ∧ room = true)) (hf : faOk wt ag c n = true) :
    ∃ (ys yw ya : Bool) (yk : Int), fhOrd s wt ag c n q room = (ys, yw, ya, c, n, yk) ∧ yk ≠ 0 ∧ faOk yw ya c n = true := by
  subst hs
  obtain ⟨h0, h1⟩ := fa_parts hf
  unfold fhOrd
  simp only [Bool.false_eq_true, if_false]
  split
  · exact ⟨_, _, _, _, rfl, by decide, hf⟩
  · split
    · exact ⟨_, _, _, _, rfl, by decide, hf⟩
    · split
      · exact ⟨_, _, _, _, rfl, by decide, hf⟩
      · split
        · exact ⟨_, _, _, _, rfl, by decide, by simp [faOk, h0, h1]⟩
        · split
          · exact ⟨_, _, _, _, rfl, by decide, by simp [faOk, h0, h1]⟩
          · rename_i _ _ hw hd hr
            refine absurd ⟨?_, by simpa using hw, by simpa using hr⟩ hT
            omega
/-- A frame that is not past the order and was taken. -/
theorem fh_taken {s wt ag g room : Bool} {c n cr v q : Int} {d : ByteArray} {ys yw ya : Bool} {yc yn yk : Int} (h : fh s wt ag c n false g cr v q d room = (ys, yw, ya, yc, yn, yk)) (hk : yk = 0) :
    faOk wt ag c n = true ∧ frOk false g cr v q d = true ∧ g = false ∧ s = false ∧ wt = false ∧ room = true ∧ q = n ∧ (ys, yw, ya, yc, yn, yk) = (false, false, false, c, (n + 1) % 256, 0) := by
  subst hk
  cases hf : faOk wt ag c n
  · simp [fh, hf] at h
  cases hx : frOk false g cr v q d
  · simp [fh, hf, hx] at h
  have hg := fr_gov hx
  subst hg
  rw [fh_ord hf hx] at h
  obtain ⟨_, _, n0, n1, _⟩ := faOk_bounds' hf
  obtain ⟨_, _, _, _, q0, q1⟩ := fr_num hx
  cases s
  · by_cases hT : q = n ∧ wt = false ∧ room = true
    · obtain ⟨rfl, rfl, rfl⟩ := hT
      have := fh_take hf hx
      rw [fh_ord hf hx] at this
      rw [this] at h
      exact ⟨rfl, rfl, rfl, rfl, rfl, rfl, rfl, h.symm⟩
    · obtain ⟨a, b, e, k, h1, h2, _⟩ := ord_not ⟨n0, n1⟩ ⟨q0, q1⟩ rfl hT hf
      rw [h1] at h
      simp only [Prod.mk.injEq] at h
      exact absurd h.2.2.2.2.2 h2
  · simp [fhOrd] at h
theorem fh_again {c n cr v : Int} {d : ByteArray} (hf : faOk false false c ((n + 1) % 256) = true) (hn : 0 ≤ n ∧ n ≤ 255) (hx : frOk false false cr v n d = true) :
    fh false false false c ((n + 1) % 256) false false cr v n d true = (false, false, false, c, (n + 1) % 256, 1) := by
  rw [fh_ord hf hx]
  have e : (n - (n + 1) % 256) % 256 = 255 := by omega
  simp [fhOrd, e, farB, lateB]
theorem fh_far {wt ag : Bool} {c n cr v : Int} {d : ByteArray} (hf : faOk wt ag c n = true) (hx : frOk false false cr v ((n + 128) % 256) d = true) :
    fh false wt ag c n false false cr v ((n + 128) % 256) d true = (true, wt, ag, c, n, 3) := by
  rw [fh_ord hf hx]
  obtain ⟨_, _, n0, n1, _⟩ := faOk_bounds' hf
  have e : ((n + 128) % 256 - n) % 256 = 128 := by omega
  simp [fhOrd, e, farB, lateB]
end Go.Proofs.Ytfojljhpobdcdaa
