/- A range over a function value with bound arguments (a method value): one rule, by what holds between two rounds. Nothing of the program. -/
import Derived.RangeFuncOwn
import Derived.RangeFuncCalls
import Derived.RangeFuncLeaves
import Derived.RangeFuncIn
namespace Go.Proofs.Ythhibeepfecmdaa
open Go.RowKit
set_option linter.unusedVariables false
/-- A word on worlds that stays when blocks are laid, and when one that holds no cells is turned from B on. -/
structure Calm (B : Nat) (I : World → Prop) : Prop where
  alloc : ∀ W o, I W → I (W.alloc o)
  drew : ∀ W, I W → I W.drew
  put : ∀ W r o o', B ≤ r → W.heap[r]? = some o → o.isCells = false → I W → I (W.putObj r o')
theorem Calm.and {B : Nat} {I I' : World → Prop} (h : Calm B I) (k : Calm B I') : Calm B (fun W => I W ∧ I' W) := ⟨fun W o x => ⟨h.alloc W o x.1, k.alloc W o x.2⟩, fun W x => ⟨h.drew W x.1, k.drew W x.2⟩, fun W r o o' a b c x => ⟨h.put W r o o' a b c x.1, k.put W r o o' a b c x.2⟩⟩
theorem Calm.pure {B : Nat} {p : Prop} : Calm B (fun _ => p) := ⟨fun _ _ x => x, fun _ x => x, fun _ _ _ _ _ _ _ x => x⟩
theorem Calm.ex {B : Nat} {β : Type} {I : β → World → Prop} (h : ∀ x, Calm B (I x)) : Calm B (fun W => ∃ x, I x W) :=
  ⟨fun W o ⟨x, k⟩ => ⟨x, (h x).alloc W o k⟩, fun W ⟨x, k⟩ => ⟨x, (h x).drew W k⟩, fun W r o o' a b c ⟨x, k⟩ => ⟨x, (h x).put W r o o' a b c k⟩⟩
theorem Calm.block {B b : Nat} {x : Obj} (hb : b < B) : Calm B (fun W => W.heap[b]? = some x) :=
  ⟨fun W o h => (Below.heap_alloc W o b (Array.getElem?_eq_some_iff.1 h).1).trans h, fun _ h => h, fun W r o o' hr _ _ h => (World.putObj_heap_other (by omega)).trans h⟩
theorem Calm.below {B n0 : Nat} {w0 : World} (hn : n0 ≤ w0.heap.size) (hB : n0 ≤ B) : Calm B (fun W => Below n0 w0 W) :=
  ⟨fun W o h => h.alloc (Nat.le_trans hn h.size) o, fun W h => h.drew, fun W r o o' hr _ _ h => h.trans ⟨rfl, rfl, rfl, by simp, fun k hk => World.putObj_heap_other (by omega)⟩⟩
/-- Blocks of cells from B on stay. -/
structure Hi (B : Nat) (W W' : World) : Prop where
  size : W.heap.size ≤ W'.heap.size
  same : ∀ (k : Nat) (o : Obj), B ≤ k → W.heap[k]? = some o → o.isCells = true → W'.heap[k]? = some o
theorem Hi.refl (B : Nat) (W : World) : Hi B W W := ⟨Nat.le_refl _, fun _ _ _ h _ => h⟩
theorem Hi.trans {B : Nat} {A C D : World} (h : Hi B A C) (k : Hi B C D) : Hi B A D := ⟨Nat.le_trans h.size k.size, fun i o hb hi ho => k.same i o hb (h.same i o hb hi ho) ho⟩
theorem Hi.put {B r : Nat} {W : World} {o o' : Obj} (h : W.heap[r]? = some o) (ho : o.isCells = false) : Hi B W (W.putObj r o') := by
  refine ⟨by simp, fun k x hk hx hc => ?_⟩
  by_cases e : k = r
  · subst e; rw [h] at hx; cases hx; rw [ho] at hc; cases hc
  · exact (World.putObj_heap_other e).trans hx
theorem Hi.set {B b j : Nat} {W : World} {c : Value} (h : b < B) : Hi B W (W.setCell ⟨b, j, none⟩ c) :=
  ⟨by simp [World.setCell], fun k o hk hx _ => (Below.heap_setCell W ⟨b, j, none⟩ c k (by simp; omega)).trans hx⟩
theorem Hi.alloc (B : Nat) (W : World) (o : Obj) : Hi B W (W.alloc o) := ⟨by simp, fun k x _ hx _ => (Below.heap_alloc W o k (Array.getElem?_eq_some_iff.1 hx).1).trans hx⟩
theorem Hi.drew (B : Nat) (W : World) : Hi B W W.drew := ⟨Nat.le_refl _, fun _ _ _ h _ => h⟩
theorem Hi.of_below {B : Nat} {W W' : World} (h : Below W.heap.size W W') : Hi B W W' := ⟨h.size, fun k o _ hx _ => (h.block k (Array.getElem?_eq_some_iff.1 hx).1).trans hx⟩
/-- What the function that is ranged over gives: from s0 on, an x where E lets it, then nx; at the end End. -/
def Gives (P : Program) (n gf : Nat) (bd : Array Value) {σ α : Type} (enc : α → Value) (E : σ → α → Prop) (nx : σ → α → σ) (End : σ → Prop) (s0 : σ) (B : Nat) : Prop :=
  ∀ (l : Nat) (J : σ → World → Prop) (Jx : World → Prop) (W : World), B ≤ W.heap.size →
    (∀ s W, J s W → J s W.drew) → (∀ W, Jx W → Jx W.drew) → (∀ s W o, J s W → J s (W.alloc o)) → (∀ W o, Jx W → Jx (W.alloc o)) →
    (∀ s x W1, J s W1 → E s x → ∃ fn tmps as bo, (Instr.yield l #[enc x]).run P W1 = .ok (.round l fn tmps as bo) W1 ∧
      RoundIn Fence.wide (n - 1) P l fn tmps as bo W1 (fun e W' => ∃ b : Bool, e = .returned (.bool b) ∧ Hi B W1 W' ∧ (b = true → J (nx s x) W') ∧ (b = false → Jx W'))) →
    J s0 W → CallsIn Fence.wide n P gf (bd ++ #[.func (.yield l) #[] #[]]) W fun e W' => (∃ v, e = .returned v) ∧ ((∃ s, End s ∧ J s W') ∨ Jx W')
/-- How a round's body may be left. -/
def rbPost (B : Nat) (W : World) (I : World → Prop) (Ix : Code → World → Prop) : Exit → Act → World → Prop
  | .normal, _, W' => KeepsOthers W W' ∧ Hi B W W' ∧ I W'
  | .ret, _, W' => KeepsOthers W W' ∧ Hi B W W' ∧ Ix .ret W'
  | .exit id, _, W' => KeepsOthers W W' ∧ Hi B W W' ∧ Ix (.exit id) W'
  | _, _, _ => False
section
variable {P : Program} {n : Nat}
set_option maxHeartbeats 1000000 in
theorem wpIn_rangeB {g : Operand} {ps : Array Tmp} {assign body : Code} {Q : Exit → Act → World → Prop} {a : Act} {w : World} {gf : Nat} {bd : Array Value}
    (hg : a.eval g = .func (.func gf) bd #[]) (eg : ∀ args w, (callFunc gf args).run P w = .ok (.enter gf args) w)
    {σ α : Type} {enc : α → Value} {E : σ → α → Prop} {nx : σ → α → σ} {End : σ → Prop} {s0 : σ} (hps : ps.size = 1)
    (hseq : Gives P (n - 1) gf bd enc E nx End s0 w.heap.size)
    (I : σ → World → Prop) (Ix : Code → World → Prop) (hI : ∀ s, Calm w.heap.size (I s)) (hIx : ∀ c, Calm w.heap.size (Ix c)) (h0 : I s0 w) (a₁ : α → Act)
    (hassign : ∀ (l : Nat) (x : α) (W : World) (K : Act → World → Prop), K (a₁ x) W → assign.wpIn (Fence.wide.inRound l) (n - 1 - 1) P (Exit.then K (fun _ _ _ => False)) { tmps := (ps.zip #[enc x]).foldl (fun t (p, v) => t.setIfInBounds p v) a.tmps, defers := [] } W)
    (hbody : ∀ (l : Nat) (s : σ) (x : α) (W : World), I s W → E s x → body.wpIn (Fence.wide.inRound l) (n - 1 - 1) P (rbPost w.heap.size W (I (nx s x)) Ix) (a₁ x) W)
    (hdone : ∀ (D : Nat) (s : σ) (W : World), w.heap.size ≤ D → End s → I s W → W.heap[D]? = some (.deferred (some [])) → Q .normal { a with defers := { target := .collected D, args := #[] } :: a.defers } W)
    (hstop : ∀ (D : Nat) (c : Code) (W : World), w.heap.size ≤ D → Ix c W → W.heap[D]? = some (.deferred (some [])) → c.wpIn Fence.wide n P Q { a with defers := { target := .collected D, args := #[] } :: a.defers } W) :
    (Code.rangeFunc g ps assign body).wpIn Fence.wide n P Q a w := by
  refine wpIn_rangeFunc fun fn _ => ?_
  have key : ∀ (lp : LoopState → Option Code → Loop), (lp = fun st pe => { state := st, pending := pe, fn := fn, tmps := a.tmps, params := ps, assign := assign, body := body, defers := w.heap.size }) →
      CallsIn Fence.wide (n - 1) P gf (bd ++ #[.func (.yield (w.heap.size + 1)) #[] #[]]) ((w.alloc (.deferred (some []))).alloc (.loop (lp .ready none)))
        (rangePost Fence.wide n P (w.heap.size + 1) Q { a with defers := { target := .collected w.heap.size, args := #[] } :: a.defers }) := by
    intro lp hlp
    let L : Nat := w.heap.size + 1
    refine (hseq (w.heap.size + 1) (fun s W => I s W ∧ W.heap[w.heap.size + 1]? = some (.loop (lp .ready none)) ∧ W.heap[w.heap.size]? = some (.deferred (some [])))
      (fun W => ∃ c, Ix c W ∧ W.heap[w.heap.size + 1]? = some (.loop (lp .done (some c))) ∧ W.heap[w.heap.size]? = some (.deferred (some [])))
      _ (by simp; omega) (fun s W h => ⟨(hI s).drew W h.1, h.2.1, h.2.2⟩) (fun W ⟨c, h, k⟩ => ⟨c, (hIx c).drew W h, k.1, k.2⟩)
      (fun s W o h => ⟨(hI s).alloc W o h.1, (Below.heap_alloc W o _ (Array.getElem?_eq_some_iff.1 h.2.1).1).trans h.2.1, (Below.heap_alloc W o _ (Array.getElem?_eq_some_iff.1 h.2.2).1).trans h.2.2⟩)
      (fun W o ⟨c, h, k⟩ => ⟨c, (hIx c).alloc W o h, (Below.heap_alloc W o _ (Array.getElem?_eq_some_iff.1 k.1).1).trans k.1, (Below.heap_alloc W o _ (Array.getElem?_eq_some_iff.1 k.2).1).trans k.2⟩)
      ?_ ?_).mono ?_
    · rintro s x W ⟨hi, hl, hd⟩ hE
      have hy := run_yield (P := P) (args := #[enc x]) hl (by rw [hlp]; exact hps.symm)
      have hbusy := run_beginRound (P := P) hl (by rw [hlp])
      have hlt : w.heap.size + 1 < W.heap.size := (Array.getElem?_eq_some_iff.1 hl).1
      rw [hlp] at hy
      refine ⟨fn, _, assign, body, hy, roundIn_of_wpIn trivial (hassign _ x W _ ⟨_, hbusy, ?_⟩)⟩
      generalize hW2 : W.putObj (w.heap.size + 1) (.loop { lp .ready none with state := .busy }) = W2
      have hi2 : I s W2 := by rw [← hW2]; exact (hI s).put _ _ _ _ (by omega) hl rfl hi
      have hl2 : W2.heap[w.heap.size + 1]? = some (.loop { lp .ready none with state := .busy }) := by rw [← hW2]; exact World.putObj_heap_same hlt
      have hd2 : W2.heap[w.heap.size]? = some (.deferred (some [])) := by rw [← hW2]; exact (World.putObj_heap_other (by omega)).trans hd
      have hh2 : Hi w.heap.size W W2 := by rw [← hW2]; exact Hi.put hl rfl
      refine wpIn_mono (hbody _ s x W2 hi2 hE) ?_
      have fin : ∀ (j : Option Code) (W3 : World), KeepsOthers W2 W3 → Hi w.heap.size W2 W3 → ∃ W4, (Instr.endRound (w.heap.size + 1) j).run P W3 = .ok (.bool j.isNone) W4 ∧ Hi w.heap.size W W4 ∧
          W4.heap[w.heap.size + 1]? = some (.loop (lp (if j.isNone then .ready else .done) j)) ∧ W4.heap[w.heap.size]? = some (.deferred (some [])) ∧ (∀ J : World → Prop, Calm w.heap.size J → J W3 → J W4) := by
        intro j W3 hk hh
        have hl3 := hk.same _ _ hl2 rfl
        have hd3 := hk.same _ _ hd2 rfl
        have hlt3 : w.heap.size + 1 < W3.heap.size := (Array.getElem?_eq_some_iff.1 hl3).1
        refine ⟨_, run_endRound (P := P) j hl3, (hh2.trans hh).trans (Hi.put hl3 rfl), ?_, (World.putObj_heap_other (by omega)).trans hd3, fun J hJ h => hJ.put _ _ _ _ (by omega) hl3 rfl h⟩
        rw [World.putObj_heap_same hlt3, hlp]
      rintro e a3 W3 hp
      cases e with
      | normal =>
        obtain ⟨hk, hh, hi3⟩ := hp
        obtain ⟨W4, hr, h4, hl4, hd4, hc⟩ := fin none W3 hk hh
        exact ⟨_, W4, hr, true, rfl, h4, fun _ => ⟨hc _ (hI _) hi3, hl4, hd4⟩, (fun h => by cases h)⟩
      | ret =>
        obtain ⟨hk, hh, hi3⟩ := hp
        obtain ⟨W4, hr, h4, hl4, hd4, hc⟩ := fin (some .ret) W3 hk hh
        exact ⟨_, W4, hr, false, rfl, h4, (fun h => by cases h), fun _ => ⟨_, hc _ (hIx _) hi3, hl4, hd4⟩⟩
      | exit id =>
        obtain ⟨hk, hh, hi3⟩ := hp
        obtain ⟨W4, hr, h4, hl4, hd4, hc⟩ := fin (some (.exit id)) W3 hk hh
        exact ⟨_, W4, hr, false, rfl, h4, (fun h => by cases h), fun _ => ⟨_, hc _ (hIx _) hi3, hl4, hd4⟩⟩
      | goto t => exact hp.elim
      | panic ch => exact hp.elim
      | outgrown => exact hp.elim
    · refine ⟨(hI s0).alloc _ _ ((hI s0).alloc _ _ h0), ?_, ?_⟩
      · have := World.alloc_heap_new (w.alloc (.deferred (some []))) (.loop (lp .ready none))
        rwa [World.size_alloc] at this
      · exact (Below.heap_alloc _ _ _ (by simp)).trans (World.alloc_heap_new w _)
    · rintro e W2 ⟨⟨v, rfl⟩, (⟨s, hS, hi, hl, hd⟩ | ⟨c, hi, hl, hd⟩)⟩
      · refine ⟨none, _, ?_, hdone w.heap.size s _ (Nat.le_refl _) hS ((hI s).put _ _ _ (.loop { lp .ready none with state := .exhausted }) (Nat.le_succ _) hl rfl hi) ((World.putObj_heap_other (by omega)).trans hd)⟩
        have h := run_endLoop (P := P) hl (by rw [hlp]; simp)
        rw [h, hlp]
      · refine ⟨some c, _, ?_, hstop w.heap.size c _ (Nat.le_refl _) ((hIx c).put _ _ _ (.loop { lp .done (some c) with state := .exhausted }) (Nat.le_succ _) hl rfl hi) ((World.putObj_heap_other (by omega)).trans hd)⟩
        have h := run_endLoop (P := P) hl (by rw [hlp]; simp)
        rw [h, hlp]
  obtain ⟨lp, hlp⟩ : ∃ lp : LoopState → Option Code → Loop, lp = fun st pe => { state := st, pending := pe, fn := fn, tmps := a.tmps, params := ps, assign := assign, body := body, defers := w.heap.size } := ⟨_, rfl⟩
  have hk := key lp hlp
  clear key hbody hassign hdone hstop hseq
  obtain ⟨W1, hW1⟩ : ∃ W1, (w.alloc (.deferred (some []))).alloc (.loop (lp .ready none)) = W1 := ⟨_, rfl⟩
  rw [hW1] at hk
  refine ⟨w.heap.size + 1, [{ target := .collected w.heap.size, args := #[] }], W1, { target := .fn (.func gf) #[], args := bd ++ #[.func (.yield (w.heap.size + 1)) #[] #[]] }, W1, gf, bd ++ #[.func (.yield (w.heap.size + 1)) #[] #[]], W1, ?_, ?_, ?_, ?_, ?_, ?_⟩
  · rw [← hW1, hlp]; exact run_enterLoop_outer _ _ _ _ _
  · simp only [resolve, hg]
    simp [go_sem]
  · exact fun _ _ => trivial
  · simp [invoke, go_sem, eg]
  · exact fun h => by simp [Fence.wide] at h
  · exact hk
end
end Go.Proofs.Ythhibeepfecmdaa
