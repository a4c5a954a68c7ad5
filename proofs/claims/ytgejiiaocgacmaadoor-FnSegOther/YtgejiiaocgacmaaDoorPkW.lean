/- The writer of packets: impl.packWriter's text. -/
import Derived.Test.YtgejiiaocgacmaaDoorFaP
import Derived.Test.YtgejiiaocgacmaaDoorKeep
import Derived.Lib.AppendStr
import Derived.OwnWalk
namespace Go.Proofs.YtgejiiaocgacmaaDoor
open Go.ChangeShapes Go.WideShapes Go.ChangeAt Go.RowKit
set_option linter.unusedVariables false
theorem infoU8 : (Tryd.prog.info? 5).map (fun i => (i.zero, i.size, i.bytes)) = some (some (.int .u8 0), 1, 1) := by kernel_rfl
theorem ownBlk {w : World} {base e size : Nat} {v : Value} {n : Nat} {xs : List Value} (h : w.ownsRow base e size v n xs) : ∀ k, v.ownBlock = some k → base ≤ k := by
  intro k hk
  rcases h.2 with ⟨rfl, _⟩ | ⟨b, cap, cur, rfl, hb, _⟩
  · cases hk
  · have : b = k := by simpa [Value.ownBlock] using hk
    omega
/-- What stays below b when the row at or above b + 1 grows. -/
theorem grown_below {b : Nat} {w w' : World} {row : Option Nat} (hg : w.grownBy w' row) (hr : ∀ k, row = some k → b + 1 ≤ k) (hb : b < w.heap.size) : Below (b + 1) w w' :=
  ⟨hg.os, hg.tape, hg.output, hg.size, fun k hk => hg.block k (by omega) (fun e => by have := hr k e.symm; omega)⟩
theorem ownsRow_setCell {w : World} {base e size g j : Nat} {v c : Value} {n : Nat} {xs : List Value} (h : w.ownsRow base e size v n xs) (hg : g < base) : (w.setCell ⟨g, j, none⟩ c).ownsRow base e size v n xs := by
  obtain ⟨h1, h2⟩ := h
  refine ⟨h1, ?_⟩
  rcases h2 with h2 | ⟨b, cap, cur, hv, hb, hh, r⟩
  · exact .inl h2
  · exact .inr ⟨b, cap, cur, hv, hb, (Below.heap_setCell _ _ _ _ (by simp; omega)).trans hh, r⟩
theorem slice_form {w : World} {base e size : Nat} {v : Value} {n : Nat} {xs : List Value} (h : w.ownsRow base e size v n xs) : ∃ ao m cp, v = .slice ao m cp := by
  rcases h.2 with ⟨rfl, _⟩ | ⟨b, cap, cur, rfl, _⟩
  · exact ⟨_, _, _, rfl⟩
  · exact ⟨_, _, _, rfl⟩
/-- The writer at block b holds these bytes. -/
def Wrt (w : World) (b : Nat) (l : List UInt8) : Prop := ∃ v, w.heap[b]? = some (.cells #[v] 177) ∧ w.ownsRow (b + 1) 5 1 v l.length (l.map fun x => Value.int .u8 x.toNat)
/-- Blocks below b stay, and all other blocks that are no rows of bytes, but b itself. -/
def Kept (b : Nat) (w w' : World) : Prop := Below b w w' ∧ ∀ q cs t fr, q ≠ b → t ≠ 5 → w.heap[q]? = some (.cells cs t fr) → w'.heap[q]? = some (.cells cs t fr)
theorem Kept.trans {b : Nat} {w w' w'' : World} (h : Kept b w w') (k : Kept b w' w'') : Kept b w w'' := ⟨h.1.trans k.1, fun q cs t fr h1 h2 h3 => k.2 q cs t fr h1 h2 (h.2 q cs t fr h1 h2 h3)⟩
theorem Kept.of_below {b : Nat} {w w' : World} (h : Below w.heap.size w w') (hb : b ≤ w.heap.size) : Kept b w w' := ⟨h.mono hb, fun q cs t fr h1 h2 h3 => get_below h h3 (size_of_get h3)⟩
set_option maxRecDepth 100000 in
set_option maxHeartbeats 1000000 in
theorem text_any (b : Nat) (l : List UInt8) (s : ByteArray) (w : World) (h : Wrt w b l) (hn : l.length + s.size ≤ 1000000) :
    Calls Tryd.prog 138 #[.pointer (some ⟨b, 0, none⟩), .string s] w fun e w' => e = .returned (.tuple #[]) ∧ Wrt w' b (l ++ s.data.toList) ∧ Kept b w w' := by
  obtain ⟨v, hG, hO⟩ := h
  obtain ⟨i0, hi, hz0, hz1, hz2⟩ := info_parts infoU8
  have hc : w.cell? ⟨b, 0, none⟩ = some v := cell_get hG rfl
  have hf : w.frozen? ⟨b, 0, none⟩ = false := frozen_get hG
  have hlt : b < w.heap.size := size_of_get hG
  have HG : Hid _ := hG
  have HO : Hid _ := hO
  clear hG hO
  go_enter Tryd.func138, Tryd.ntmps138
  go_wp2_with (at_builtin; refine Lib.wpList_append_own_string _ rfl _ _ 177 9 rfl (b + 1) 5 i0 Tryd.underlying177 Tryd.underlying9 hi hz0 hz1 hz2 v l.length _ rfl HO.out s rfl (by unfold maxLen; omega) (by omega) (by omega) ?_; intro v' w2 hown' hgrow' hnil'; obtain ⟨ao, nn, cp, rfl⟩ := slice_form hown'; have hgr := grown_below hgrow' (ownBlk HO.out) hlt; have hG2 : w2.heap[b]? = some (.cells #[v] 177) := (hgr.block b (by omega)).trans HG.out; have hc2 : w2.cell? ⟨b, 0, none⟩ = some v := cell_get hG2 rfl; have hf2 : w2.frozen? ⟨b, 0, none⟩ = false := frozen_get hG2)
  have hlt2 : b < w2.heap.size := size_of_get hG2
  refine ⟨rfl, .tuple #[], results_none Tryd.results138 _ _ _, rfl, ⟨_, get_set hG2 rfl, ?_⟩, belowS (hgr.mono (Nat.le_succ _)) (Nat.le_refl _), ?_⟩
  · have ho := ownsRow_setCell (g := b) (j := 0) (c := .slice ao nn cp) hown' (by omega)
    rw [List.map_append, List.length_append, show s.data.toList.length = s.size from by simp]
    exact ho
  · intro q cs t fr h1 h2 h3
    refine get_set_ne ((hgrow'.block q (size_of_get h3) ?_).trans h3) h1
    intro e
    rcases HO.out.2 with ⟨rfl, _⟩ | ⟨g, cap, cur, rfl, _, hh, _⟩
    · cases e
    · have eg : q = g := by simpa [Value.ownBlock] using e
      subst eg
      rw [h3] at hh
      simp at hh
      exact h2 hh.2.1
end Go.Proofs.YtgejiiaocgacmaaDoor
