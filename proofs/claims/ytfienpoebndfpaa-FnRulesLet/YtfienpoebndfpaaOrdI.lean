/- A region that draws its order, by an invariant: each operation is looked at once, not once an order. Nothing of the program. -/
import Derived.Orders
namespace Go.Proofs.Ytfienpoebndfpaa
theorem countP_lt {p p' : Nat → Bool} (hle : ∀ j, p' j = true → p j = true) : ∀ (l : List Nat) (i : Nat), i ∈ l → p i = true → p' i = false → l.countP p' < l.countP p
  | [], i, hi, _, _ => by cases hi
  | x :: l, i, hi, h1, h2 => by
    have hmono : l.countP p' ≤ l.countP p := List.countP_mono_left fun j _ h => hle j h
    rcases List.mem_cons.1 hi with rfl | hi
    · rw [List.countP_cons_of_pos h1, List.countP_cons_of_neg (by simp [h2])]
      omega
    · have ih := countP_lt hle l i hi h1 h2
      cases hx : p' x
      · rw [List.countP_cons_of_neg (by simp [hx])]
        rw [List.countP_cons]
        omega
      · rw [List.countP_cons_of_pos hx, List.countP_cons_of_pos (hle x hx)]
        omega
section
variable {P : Program} {ops : Array Oper} {Q : Exit → Act → World → Prop} {md : Region.Mode}
def unlisted (ops : Array Oper) (listed : Array Bool) : Nat := (List.range ops.size).countP fun i => !listed.getD i true
theorem ready_mem {listed : Array Bool} {i : Nat} (h : i ∈ Region.ready md ops listed) : i < ops.size ∧ listed.getD i true = false := by
  simp only [Region.ready, List.mem_filter, List.mem_range, Bool.and_eq_true, Bool.not_eq_true'] at h
  exact ⟨h.1, h.2.1⟩
theorem ready_nil {listed : Array Bool} (h : unlisted ops listed = 0) : Region.ready md ops listed = [] := by
  rcases hr : Region.ready md ops listed with _ | ⟨i, rs⟩
  · rfl
  · obtain ⟨h1, h2⟩ := ready_mem (md := md) (ops := ops) (listed := listed) (i := i) (by rw [hr]; simp)
    have hp : 0 < unlisted ops listed := List.countP_pos_iff.2 ⟨i, List.mem_range.2 h1, by simp [h2]⟩
    omega
theorem unlisted_set {listed : Array Bool} {i : Nat} (hi : i < ops.size) (h : listed.getD i true = false) : unlisted ops (listed.setIfInBounds i true) < unlisted ops listed := by
  have hlt : i < listed.size := by
    rcases Nat.lt_or_ge i listed.size with k | k
    · exact k
    · simp [Array.getD, Nat.not_lt.2 k] at h
  refine countP_lt (fun j hj => ?_) _ i (List.mem_range.2 hi) (by simp [h]) ?_
  · by_cases e : j = i
    · subst e; simp [h]
    · simp only [Bool.not_eq_true', Array.getD_eq_getD_getElem?] at hj ⊢
      rw [Array.getElem?_setIfInBounds_ne (by omega)] at hj
      exact hj
  · simp [Array.getD_eq_getD_getElem?, hlt]
theorem wpAny_inv (I : Array Bool → Act → World → Prop)
    (hstep : ∀ listed a w i, I listed a w → i ∈ Region.ready md ops listed → wpOp P ops Q i (fun a' w' => I (listed.setIfInBounds i true) a' w') a w)
    (hdone : ∀ listed a w, I listed a w → Region.ready md ops listed = [] → Q .normal a w) :
    ∀ (fuel : Nat) (listed : Array Bool) (a : Act) (w : World), unlisted ops listed ≤ fuel → I listed a w → wpAny P md ops Q fuel listed a w := by
  intro fuel
  induction fuel with
  | zero =>
    intro listed a w hc hI
    have hr := ready_nil (md := md) (Nat.le_zero.1 hc)
    exact ⟨hr, hdone _ _ _ hI hr⟩
  | succ fuel ih =>
    intro listed a w hc hI
    refine ⟨fun hr => hdone _ _ _ hI hr, fun i hi => ?_⟩
    obtain ⟨h1, h2⟩ := ready_mem hi
    have hlt := unlisted_set h1 h2
    exact wpOp_mono (fun a' w' h => ih _ a' w' (by omega) h) (hstep _ _ _ i hI hi)
end
end Go.Proofs.Ytfienpoebndfpaa
