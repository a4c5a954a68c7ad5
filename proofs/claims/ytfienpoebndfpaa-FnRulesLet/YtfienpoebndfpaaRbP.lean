/- A book of rules as data: who asks what of whom, each once, where it first came; the modes put together. Nothing of the program. -/
import Derived.Test.YtfienpoebndfpaaRows
namespace Go.Proofs.Ytfienpoebndfpaa
set_option linter.unusedVariables false
abbrev RKey := Int × Int × Int × Int
abbrev REnt := RKey × Bool × Bool
def rbFind (k : RKey) : List REnt → Nat → Option (Nat × Bool × Bool)
  | [], _ => none
  | e :: t, i => if k = e.1 then some (i, e.2) else rbFind k t (i + 1)
def rbGet (l : List REnt) (k : RKey) : Bool × Bool := ((rbFind k l 0).map (·.2)).getD (false, false)
def rbAdd (l : List REnt) (k : RKey) (p s : Bool) : List REnt :=
  match rbFind k l 0 with
  | some (i, m) => l.set i (k, m.1 || p, m.2 || s)
  | none => l ++ [(k, p, s)]
theorem rbFind_some {k : RKey} : ∀ {l : List REnt} {i j : Nat} {m : Bool × Bool}, rbFind k l i = some (j, m) → i ≤ j ∧ j < i + l.length ∧ l[j - i]? = some (k, m)
  | [], i, j, m, h => by simp [rbFind] at h
  | e :: t, i, j, m, h => by
    unfold rbFind at h
    split at h
    · rename_i hk
      simp only [Option.some.injEq, Prod.mk.injEq] at h
      obtain ⟨rfl, rfl⟩ := h
      refine ⟨Nat.le_refl _, by simp, ?_⟩
      rw [hk]; simp
    · obtain ⟨h1, h2, h3⟩ := rbFind_some h
      refine ⟨by omega, by simp; omega, ?_⟩
      have e : j - i = (j - (i + 1)) + 1 := by omega
      rw [e, List.getElem?_cons_succ]; exact h3
theorem rbFind_shift (k : RKey) : ∀ (l : List REnt) (i : Nat), rbFind k l i = (rbFind k l 0).map fun x => (x.1 + i, x.2)
  | [], i => by simp [rbFind]
  | e :: t, i => by
    unfold rbFind
    split
    · simp
    · rw [rbFind_shift k t (i + 1), rbFind_shift k t (0 + 1)]
      cases rbFind k t 0 <;> simp; omega
theorem rbFind_app_some {k : RKey} {l : List REnt} {i : Nat} {x : Nat × Bool × Bool} (r : List REnt) (h : rbFind k l i = some x) : rbFind k (l ++ r) i = some x := by
  induction l generalizing i with
  | nil => simp [rbFind] at h
  | cons e t ih =>
    unfold rbFind at h
    rw [List.cons_append]; unfold rbFind
    split at h
    · rename_i hk; rw [if_pos hk]; exact h
    · rename_i hk; rw [if_neg hk]; exact ih h
theorem rbFind_app_none {k : RKey} {l : List REnt} {i : Nat} (r : List REnt) (h : rbFind k l i = none) : rbFind k (l ++ r) i = rbFind k r (i + l.length) := by
  induction l generalizing i with
  | nil => simp
  | cons e t ih =>
    unfold rbFind at h
    split at h
    · cases h
    · rename_i hk
      rw [List.cons_append]; conv => lhs; unfold rbFind
      rw [if_neg hk, ih h]
      congr 1; simp; omega
theorem rbFind_set {k k' : RKey} {l : List REnt} {i j : Nat} {m : Bool × Bool} (m' : Bool × Bool) (h : rbFind k l i = some (j, m)) : rbFind k' (l.set (j - i) (k, m')) i = if k' = k then some (j, m') else rbFind k' l i := by
  induction l generalizing i with
  | nil => simp [rbFind] at h
  | cons e t ih =>
    unfold rbFind at h
    split at h
    · rename_i hk
      simp only [Option.some.injEq, Prod.mk.injEq] at h
      obtain ⟨rfl, rfl⟩ := h
      rw [Nat.sub_self, List.set_cons_zero]
      unfold rbFind
      by_cases e1 : k' = k
      · simp [e1]
      · have e2 : ¬ k' = e.1 := fun h => e1 (h.trans hk.symm)
        simp only [if_neg e1, if_neg e2]
    · rename_i hk
      obtain ⟨h1, h2, h3⟩ := rbFind_some h
      have e2 : j - i = (j - (i + 1)) + 1 := by omega
      rw [e2, List.set_cons_succ]
      unfold rbFind
      by_cases e1 : k' = e.1
      · rw [if_pos e1, if_pos e1, if_neg (by rw [e1]; exact fun h => hk h.symm)]
      · rw [if_neg e1, if_neg e1]; exact ih h
theorem rbGet_add (l : List REnt) (k k' : RKey) (p s : Bool) : rbGet (rbAdd l k p s) k' = if k' = k then ((rbGet l k).1 || p, (rbGet l k).2 || s) else rbGet l k' := by
  unfold rbAdd
  split
  · rename_i i m hf
    have := rbFind_set (k' := k') (m.1 || p, m.2 || s) hf
    rw [Nat.sub_zero] at this
    unfold rbGet
    rw [this, hf]
    by_cases e : k' = k <;> simp [e]
  · rename_i hf
    unfold rbGet
    by_cases e : k' = k
    · subst e
      rw [rbFind_app_none _ hf, hf]; simp [rbFind]
    · rw [if_neg e]
      cases h : rbFind k' l 0 with
      | some x => rw [rbFind_app_some _ h]
      | none => rw [rbFind_app_none _ h]; simp [rbFind, e]
theorem rbAdd_len (l : List REnt) (k : RKey) (p s : Bool) : (rbAdd l k p s).length ≤ l.length + 1 := by
  unfold rbAdd; split <;> simp
section
variable (f0 f1 f2 f3 : Nat → Int) (f4 f5 : Nat → Bool)
/-- The key of the i-th rule. -/
def rkey (i : Nat) : RKey := (f0 i, f1 i, f2 i, f3 i)
/-- The book of the first k rules. -/
def rbook : Nat → List REnt
  | 0 => []
  | k + 1 => if f4 k || f5 k then rbAdd (rbook k) (rkey f0 f1 f2 f3 k) (f4 k) (f5 k) else rbook k
def orL (g : Nat → Bool) : Nat → Bool
  | 0 => false
  | k + 1 => orL g k || g k
theorem rbook_get (x : RKey) (n : Nat) : rbGet (rbook f0 f1 f2 f3 f4 f5 n) x = (orL (fun i => decide (rkey f0 f1 f2 f3 i = x) && f4 i) n, orL (fun i => decide (rkey f0 f1 f2 f3 i = x) && f5 i) n) := by
  induction n with
  | zero => rfl
  | succ n ih =>
    simp only [rbook, orL]
    split
    · rw [rbGet_add]
      by_cases e : x = rkey f0 f1 f2 f3 n
      · rw [if_pos e, ← e, ih]; simp
      · rw [if_neg e, ih]
        have : decide (rkey f0 f1 f2 f3 n = x) = false := by simp; exact fun h => e h.symm
        rw [this]; simp
    · rename_i h
      simp only [Bool.or_eq_true, not_or, Bool.not_eq_true] at h
      rw [ih, h.1, h.2]; simp
theorem rbook_len (n : Nat) : (rbook f0 f1 f2 f3 f4 f5 n).length ≤ n := by
  induction n with
  | zero => simp [rbook]
  | succ n ih =>
    simp only [rbook]
    split
    · have := rbAdd_len (rbook f0 f1 f2 f3 f4 f5 n) (rkey f0 f1 f2 f3 n) (f4 n) (f5 n); omega
    · omega
end
end Go.Proofs.Ytfienpoebndfpaa
