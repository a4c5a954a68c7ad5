/- Walks over the bytes of a text. No program in sight. -/
import Derived.Test.YtccpdadabndleaaDoorNumG
namespace Go.Proofs.YtccpdadabndleaaDoor
theorem fold_lt {f : Nat → UInt8 → Nat} {M : Nat} (h : ∀ s b, s < M → f s b < M) (l : List UInt8) : ∀ s, s < M → l.foldl f s < M := by
  induction l with
  | nil => intro s hs; exact hs
  | cons b l ih => intro s hs; rw [List.foldl_cons]; exact ih _ (h s b hs)
theorem fold_inj {f : Nat → UInt8 → Nat} {M : Nat} (h : ∀ s b, s < M → f s b < M) (hi : ∀ s t b, s < M → t < M → f s b = f t b → s = t) (l : List UInt8) :
    ∀ s t, s < M → t < M → l.foldl f s = l.foldl f t → s = t := by
  induction l with
  | nil => intro s t _ _ e; exact e
  | cons b l ih => intro s t hs ht e; rw [List.foldl_cons, List.foldl_cons] at e; exact hi s t b hs ht (ih _ _ (h s b hs) (h t b ht) e)
theorem fold_turn {f : Nat → UInt8 → Nat} {M s : Nat} (hs : s < M) (h : ∀ s b, s < M → f s b < M) (hi : ∀ s t b, s < M → t < M → f s b = f t b → s = t)
    (hb : ∀ s b c, s < M → f s b = f s c → b = c) (l r : List UInt8) (b c : UInt8) (hne : b ≠ c) : (l ++ b :: r).foldl f s ≠ (l ++ c :: r).foldl f s := by
  intro e
  rw [List.foldl_append, List.foldl_append, List.foldl_cons, List.foldl_cons] at e
  have hl := fold_lt h l s hs
  exact hne (hb _ b c hl (fold_inj h hi r _ _ (h _ b hl) (h _ c hl) e))
theorem fold_two {f : Nat → UInt8 → Nat} (s : Nat) (l : List UInt8) (a b : UInt8) : (l ++ [a, b]).foldl f s = f (f (l.foldl f s) a) b := by
  rw [List.foldl_append]; rfl
/-- A walk by places is the fold. -/
theorem fold_take {f : Nat → UInt8 → Nat} {F : Nat → Nat} {s : Nat} (t : ByteArray) (h0 : F 0 = s) (hn : ∀ k (h : k < t.data.toList.length), F (k + 1) = f (F k) t.data.toList[k]) :
    ∀ k, k ≤ t.data.toList.length → F k = (t.data.toList.take k).foldl f s := by
  intro k
  induction k with
  | zero => intro _; rw [h0]; rfl
  | succ k ih =>
    intro hk
    rw [hn k hk, ih (by omega), List.take_succ_eq_append_getElem hk, List.foldl_append]
    rfl
end Go.Proofs.YtccpdadabndleaaDoor
