/- impl.copied of []string. -/
import Derived.Test.YtgejiiaocgacmaaDoorMkString
import Derived.Laws.MakeOwn
import Derived.Laws.OwnMore
import Derived.Laws.AppendOwnNone
import Derived.OwnWalk
namespace Go.Proofs.YtgejiiaocgacmaaDoor
open Go.ChangeShapes Go.WideShapes Go.ChangeAt Go.RowKit
set_option linter.unusedVariables false

theorem oneString (f : Nat → ByteArray) (N : Nat) : ∀ u ∈ cellsL N (allString f), u.oneCell' = true := by
  intro u hu
  simp only [cellsL, List.mem_map] at hu
  obtain ⟨q, _, rfl⟩ := hu
  unfold allString
  rfl
theorem cinfoString : ∃ i, Tryd.prog.info? 9 = some i ∧ i.zero = some (.string ⟨#[]⟩) ∧ i.size = 1 ∧ i.bytes ≤ 256 := by
  have h : (Tryd.prog.info? 9).map (fun i => (i.zero, i.size, decide (i.bytes ≤ 256))) = some (some (.string ⟨#[]⟩), 1, true) := by kernel_rfl
  obtain ⟨i, hi, hz⟩ := Option.map_eq_some_iff.1 h
  simp only [Prod.mk.injEq, decide_eq_true_eq] at hz
  exact ⟨i, hi, hz.1, hz.2.1, hz.2.2⟩
theorem cmkString (n : Nat) (hn : n ≤ 4194304) (w : World) : (Instr.makeSlice 34 (.int .i64 0) (.int .i64 (n : Int))).run Tryd.prog w = .ok (.slice (some ⟨w.heap.size, 0, none⟩) 0 n) (w.alloc (.cells (madeCells #[.string ⟨#[]⟩] (n)) 9)) := by
  obtain ⟨i, hi, hz, hs, hb⟩ := cinfoString
  have hm : (i.bytes : Int) * (n : Int) ≤ 256 * 4194304 := Int.mul_le_mul (by omega) (by omega) (by omega) (by omega)
  have := run_make (P := Tryd.prog) w 34 9 i (.string ⟨#[]⟩) Tryd.underlying34 hi hz .i64 .i64 0 n (by omega) (by omega) (by omega) (by omega)
  rw [hs] at this
  simpa [Value.cells] using this
set_option maxRecDepth 100000 in
set_option maxHeartbeats 2000000 in
theorem copiedString_any (a : Option Addr) (n cap : Nat) (f : Nat → ByteArray) (w : World) (hn : n ≤ 4194304) (ha : a = none → n = 0 ∧ cap = 0) (h : Txt w a n f) :
    Calls Tryd.prog 114 #[.slice a n cap] w fun e w' => ∃ b cap', e = .returned (.slice (some ⟨b, 0, none⟩) n cap') ∧ w.heap.size ≤ b ∧ b < w'.heap.size ∧ n ≤ cap' ∧ Txt w' (some ⟨b, 0, none⟩) n f ∧ Free w' b ∧ Below w.heap.size w w' := by
  have hmk := cmkString n hn
  obtain ⟨i0, hi, hz0, hz1, hz2⟩ := cinfoString
  have hB : Below w.heap.size w (w.alloc (.cells (madeCells #[.string ⟨#[]⟩] (n)) 9)) := (Below.refl _ _).alloc (Nat.le_refl _) _
  have hown0 : World.ownsRow (w.alloc (.cells (madeCells #[.string ⟨#[]⟩] (n)) 9)) w.heap.size 9 1 (.slice (some ⟨w.heap.size, 0, none⟩) 0 n) 0 [] := World.ownsRow_made w _ n (Nat.le_refl _) (by unfold maxLen; omega) (by rw [size_madeCells]; omega)
  have HO : Hid _ := hown0
  have HSZ : Hid _ := h.1
  have h := h.2
  rcases a with _ | ad
  · obtain ⟨rfl, rfl⟩ := ha rfl
    simp only [Int.natCast_zero, Nat.zero_mul] at hmk HO
    clear h ha
    have key : Calls Tryd.prog 114 #[.slice none 0 0] w fun e w' => e = .returned (.slice (some ⟨w.heap.size, 0, none⟩) 0 0) ∧ w' = (w.alloc (.cells (madeCells #[.string ⟨#[]⟩] 0) 9)) := by
      go_enter Tryd.func114, Tryd.ntmps114
      go_wp2_with (at_builtin; refine wpList_append_own_none rfl _ _ 34 rfl w.heap.size 9 i0 1 Tryd.underlying34 hi _ _ _ rfl HO.out rfl ?_)
      go_ret
      exact ⟨rfl, rfl⟩
    exact key.mono fun e w' ⟨h1, h2⟩ => by subst h2; exact ⟨_, _, h1, Nat.le_refl _, by simp, Nat.le_refl _, ⟨HSZ.out, .inl rfl⟩, Free.of_get (get_new rfl), by simpa using hB⟩
  clear ha
  have hsrc : ∃ F : List Value, F = cellsL (n) (allString f) := ⟨_, rfl⟩
  have hnews : ∀ j u, (cellsL (n) (allString f))[j]? = some u → (w.alloc (.cells (madeCells #[.string ⟨#[]⟩] (n)) 9)).cell? (ad.add j) = some u := by
    rcases h with h0 | ⟨b, off, e, hlt, hc⟩
    · subst h0
      intro j u hj
      obtain ⟨hj1, _⟩ := cellsL_get hj
      omega
    · cases e
      exact ((rowString_of hc).below hB).src
  have HN : Hid _ := hnews
  have hbt : (0 + n) * i0.bytes ≤ 140737488355328 := by
    have := Nat.mul_le_mul (show 0 + n ≤ 4194304 by omega) hz2
    omega
  clear hnews hsrc
  have HLEN : Hid ((cellsL (n) (allString f)).length = n * 1) := by show _ = _; rw [cellsL_length]; omega
  go_enter Tryd.func114, Tryd.ntmps114
  go_wp2_with (at_builtin; refine wpList_append_own _ rfl _ _ 34 rfl w.heap.size 9 i0 (.string ⟨#[]⟩) 1 i0.bytes Tryd.underlying34 hi hz0 hz1 rfl rfl (by decide) (.slice (some ⟨w.heap.size, 0, none⟩) 0 n) 0 [] rfl HO.out ad n cap (cellsL (n) (allString f)) rfl HLEN.out HN.out (oneString f _) (by unfold maxLen; omega) hbt (by simp) ?_; intro v' w3 hown' hgrow hnil)
  go_ret
  rw [List.nil_append, Nat.zero_add] at hown'
  have hB3 : Below w.heap.size w w3 := own_below hB hgrow (by simp) (fun b e => Nat.le_of_eq (by simpa [Value.ownBlock] using e))
  obtain ⟨a', cap', rfl, hr⟩ := own_row (size := 1) (by simpa using hown')
  rcases hr with ⟨hn0, rfl⟩ | ⟨b, rfl, hb1, hb2, hfr, hrow⟩
  · subst hn0
    obtain ⟨_, h3⟩ := hown'
    rcases h3 with ⟨h4, _⟩ | ⟨g, c2, cur, h4, _⟩
    · have h5 := (hnil.1 h4).1
      cases h5
    · cases h4
  · obtain ⟨_, h3⟩ := hown'
    have hcap : n ≤ cap' := by
      rcases h3 with ⟨h4, _⟩ | ⟨g, c2, cur, h4, _, _, h5, _⟩
      · simp at h4
      · simp at h4; omega
    refine ⟨b, cap', rfl, hb1, hb2, hcap, ⟨HSZ.out, ?_⟩, hfr, hB3⟩
    exact .inr ⟨b, 0, rfl, hb2, of_rowString (by simpa using hrow)⟩
set_option maxRecDepth 100000 in
set_option maxHeartbeats 2000000 in
theorem copiedString_own (a : Option Addr) (n cap : Nat) (f : Nat → ByteArray) (w : World) (hn : n ≤ 4194304) (ha : a = none → n = 0 ∧ cap = 0) (h : Txt w a n f) :
    Calls Tryd.prog 114 #[.slice a n cap] w fun e w' => ∃ b cap', e = .returned (.slice (some ⟨b, 0, none⟩) n cap') ∧ w.heap.size ≤ b ∧ b < w'.heap.size ∧ w'.ownsRow b 9 1 (.slice (some ⟨b, 0, none⟩) n cap') n (cellsL (n) (allString f)) ∧ Below w.heap.size w w' := by
  have hmk := cmkString n hn
  obtain ⟨i0, hi, hz0, hz1, hz2⟩ := cinfoString
  have hB : Below w.heap.size w (w.alloc (.cells (madeCells #[.string ⟨#[]⟩] (n)) 9)) := (Below.refl _ _).alloc (Nat.le_refl _) _
  have hown0 : World.ownsRow (w.alloc (.cells (madeCells #[.string ⟨#[]⟩] (n)) 9)) w.heap.size 9 1 (.slice (some ⟨w.heap.size, 0, none⟩) 0 n) 0 [] := World.ownsRow_made w _ n (Nat.le_refl _) (by unfold maxLen; omega) (by rw [size_madeCells]; omega)
  have HO : Hid _ := hown0
  have HSZ : Hid _ := h.1
  have h := h.2
  rcases a with _ | ad
  · obtain ⟨rfl, rfl⟩ := ha rfl
    simp only [Int.natCast_zero, Nat.zero_mul] at hmk HO
    clear h ha
    have key : Calls Tryd.prog 114 #[.slice none 0 0] w fun e w' => e = .returned (.slice (some ⟨w.heap.size, 0, none⟩) 0 0) ∧ w' = (w.alloc (.cells (madeCells #[.string ⟨#[]⟩] 0) 9)) := by
      go_enter Tryd.func114, Tryd.ntmps114
      go_wp2_with (at_builtin; refine wpList_append_own_none rfl _ _ 34 rfl w.heap.size 9 i0 1 Tryd.underlying34 hi _ _ _ rfl HO.out rfl ?_)
      go_ret
      exact ⟨rfl, rfl⟩
    exact key.mono fun e w' ⟨h1, h2⟩ => by subst h2; exact ⟨_, _, h1, Nat.le_refl _, by simp, by simpa [cellsL] using (World.ownsRow_made (base := w.heap.size) (size := 1) w (madeCells #[.string ⟨#[]⟩] 0) 0 (Nat.le_refl _) (Nat.zero_le _) (by simp [size_madeCells])), by simpa using hB⟩
  clear ha
  have hsrc : ∃ F : List Value, F = cellsL (n) (allString f) := ⟨_, rfl⟩
  have hnews : ∀ j u, (cellsL (n) (allString f))[j]? = some u → (w.alloc (.cells (madeCells #[.string ⟨#[]⟩] (n)) 9)).cell? (ad.add j) = some u := by
    rcases h with h0 | ⟨b, off, e, hlt, hc⟩
    · subst h0
      intro j u hj
      obtain ⟨hj1, _⟩ := cellsL_get hj
      omega
    · cases e
      exact ((rowString_of hc).below hB).src
  have HN : Hid _ := hnews
  have hbt : (0 + n) * i0.bytes ≤ 140737488355328 := by
    have := Nat.mul_le_mul (show 0 + n ≤ 4194304 by omega) hz2
    omega
  clear hnews hsrc
  have HLEN : Hid ((cellsL (n) (allString f)).length = n * 1) := by show _ = _; rw [cellsL_length]; omega
  go_enter Tryd.func114, Tryd.ntmps114
  go_wp2_with (at_builtin; refine wpList_append_own _ rfl _ _ 34 rfl w.heap.size 9 i0 (.string ⟨#[]⟩) 1 i0.bytes Tryd.underlying34 hi hz0 hz1 rfl rfl (by decide) (.slice (some ⟨w.heap.size, 0, none⟩) 0 n) 0 [] rfl HO.out ad n cap (cellsL (n) (allString f)) rfl HLEN.out HN.out (oneString f _) (by unfold maxLen; omega) hbt (by simp) ?_; intro v' w3 hown' hgrow hnil)
  go_ret
  rw [List.nil_append, Nat.zero_add] at hown'
  have hB3 : Below w.heap.size w w3 := own_below hB hgrow (by simp) (fun b e => Nat.le_of_eq (by simpa [Value.ownBlock] using e))
  obtain ⟨a', cap', rfl, hr⟩ := own_row (size := 1) (by simpa using hown')
  rcases hr with ⟨hn0, rfl⟩ | ⟨b, rfl, hb1, hb2, hfr, hrow⟩
  · subst hn0
    obtain ⟨_, h3⟩ := hown'
    rcases h3 with ⟨h4, _⟩ | ⟨g, c2, cur, h4, _⟩
    · have h5 := (hnil.1 h4).1
      cases h5
    · cases h4
  · exact ⟨b, cap', rfl, hb1, hb2, own_base hown', hB3⟩
end Go.Proofs.YtgejiiaocgacmaaDoor
