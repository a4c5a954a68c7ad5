/- The slots rule once more, where what holds of the world may name what the slots hold. Nothing of the program. -/
import Derived.Test.YthhibeepfecmdaaOrdJ
namespace Go.Proofs.Ythhibeepfecmdaa
set_option linter.unusedVariables false
section
variable {P : Program} {ops : Array Oper} {Q : Exit → Act → World → Prop} {md : Region.Mode}
/-- What one operation owes: from what its forerunners' slots hold it goes on, keeps what stands, and fills its slot. -/
def OwesV (P : Program) (md : Region.Mode) (ops : Array Oper) (Q : Exit → Act → World → Prop) (R : World → World → Prop) (S : Nat → Value → World → Prop) (T : (Nat → Value) → Act) (G : (Nat → Bool) → (Nat → Value) → World → Prop) (i : Nat) (o : Oper) : Prop :=
  ∀ L V w, (∀ j, waits md o j = true → S j (V j) w ∧ L j = true) → G L V w → L i = false →
    ∀ K : Act → World → Prop, (∀ a' v w', a' = (T V).put o.dst v → R w w' → G (updL L i) (updV V i v) w' → S i v w' → K a' w') →
      if Region.wanted o (yielded ops (T V).tmps) = true then Oper.wp P o (T V) w K Q else K ((T V).put o.dst undef) w
theorem wpAny_slotsV (fin : Nat → Bool) (R : World → World → Prop) (S : Nat → Value → World → Prop) (T : (Nat → Value) → Act) (G : (Nat → Bool) → (Nat → Value) → World → Prop) (Z : (Nat → Bool) → (Nat → Value) → World → Prop) (l : List Oper)
    (hf : fwd md l.toArray = true) (hc : covers md fin l.toArray = true) (hR : ∀ j v w w', R w w' → S j v w → S j v w')
    (hT : StepAll (fun i o => ∀ V v, (T V).put o.dst v = T (updV V i v)) l 0)
    (hstep : StepAll (fun i o => if fin i = true then OwesF P l.toArray Q Z T i o else OwesV P md l.toArray Q R S T G i o) l 0)
    (henter : ∀ L V w, (∀ j, j < l.length → fin j = false → S j (V j) w ∧ L j = true) → (∀ j, j < l.length → fin j = true → L j = false) → G L V w → Z L V w)
    (hdone : ∀ L V w, Z L V w → (∀ j, j < l.length → L j = true) → Q .normal (T V) w)
    (V0 : Nat → Value) (w0 : World) (hG : G (fun _ => false) V0 w0) :
    wpAny P md l.toArray Q l.toArray.size (Array.replicate l.toArray.size false) (T V0) w0 := by
  have hsz : l.toArray.size = l.length := by simp
  refine wpAny_inv (fun listed a w => listed.size = l.toArray.size ∧ ∃ V, a = T V ∧
    (((∀ j, j < l.length → fin j = true → listed.getD j false = false) ∧ (∀ j, listed.getD j false = true → S j (V j) w) ∧ G (fun j => listed.getD j false) V w) ∨
     ((∀ j, j < l.length → fin j = false → listed.getD j false = true) ∧ Z (fun j => listed.getD j false) V w))) ?_ ?_ _ _ _ _ ?_ ?_
  · rintro listed a w i ⟨hs, V, rfl, hV⟩ hi
    obtain ⟨hlt, hun⟩ := ready_mem hi
    have hlt' : i < listed.size := by omega
    have hli : i < l.length := by omega
    have hun' : listed.getD i false = false := by rw [← getD_ft hlt']; exact hun
    have ho : l.toArray[i]? = some l.toArray[i] := Array.getElem?_eq_getElem hlt
    have ho' : l[i]? = some l.toArray[i] := by simp
    have hafter : (l.toArray[i].after.all fun e => !Region.binds md e || listed.getD e.on false) = true := by
      simp only [Region.ready, List.mem_filter, List.mem_range, Bool.and_eq_true, Bool.not_eq_true'] at hi
      have := hi.2.2
      rw [ho] at this
      simpa only [Option.map_some, Option.getD_some] using this
    have hst := hstep.get i _ ho'
    have hTT := hT.get i _ ho'
    rw [Nat.zero_add] at hst hTT
    have hset : (fun j => (listed.setIfInBounds i true).getD j false) = updL (fun j => listed.getD j false) i := by
      funext j
      by_cases e : j = i
      · subst e; simp [updL, Array.getD_eq_getD_getElem?, hlt']
      · simp only [updL, if_neg e, Array.getD_eq_getD_getElem?]
        rw [Array.getElem?_setIfInBounds_ne (by omega)]
    have hsetj : ∀ j, (listed.setIfInBounds i true).getD j false = updL (fun j => listed.getD j false) i j := fun j => congrFun hset j
    cases hfi : fin i with
    | false =>
      simp only [hfi, Bool.false_eq_true, if_false] at hst
      rcases hV with ⟨hnf, hV, hG⟩ | ⟨hall, _⟩
      · refine wpOp_step ho (fun K hK => hst _ V w (fun j hj => ⟨hV j (waits_of hafter hj), waits_of hafter hj⟩) hG hun' K (fun a' v w' ha hr hg hs' => ?_))
        subst ha
        refine hK _ _ ⟨by simpa using hs, updV V i v, hTT V v, .inl ⟨?_, ?_, by rw [hset]; exact hg⟩⟩
        · intro j hj hfj
          have hne : j ≠ i := fun e => by subst e; rw [hfi] at hfj; cases hfj
          rw [hsetj]; simp only [updL, if_neg hne]; exact hnf j hj hfj
        · intro j hj
          rw [hsetj] at hj
          by_cases e : j = i
          · subst e; simp only [updV, if_true]; exact hs'
          · simp only [updL, if_neg e] at hj
            simp only [updV, if_neg e]
            exact hR _ _ _ _ hr (hV j hj)
      · have := hall i hli hfi
        rw [hun'] at this; cases this
    | true =>
      simp only [hfi, if_true] at hst
      have hcov : ∀ j, j < l.length → fin j = false → listed.getD j false = true := fun j hj hfj => waits_of hafter (covers_of hc ho hlt hfi (by omega) hfj)
      have hZ : Z (fun j => listed.getD j false) V w := by
        rcases hV with ⟨hnf, hV, hG⟩ | ⟨_, hZ⟩
        · exact henter _ V w (fun j hj hfj => ⟨hV j (hcov j hj hfj), hcov j hj hfj⟩) hnf hG
        · exact hZ
      refine wpOp_step ho (fun K hK => hst _ V w hZ hun' K (fun a' v w' ha hz => ?_))
      subst ha
      refine hK _ _ ⟨by simpa using hs, updV V i v, hTT V v, .inr ⟨?_, by rw [hset]; exact hz⟩⟩
      intro j hj hfj
      have hne : j ≠ i := fun e => by subst e; rw [hfi] at hfj; cases hfj
      rw [hsetj]; simp only [updL, if_neg hne]; exact hcov j hj hfj
  · rintro listed a w ⟨hs, V, rfl, hV⟩ hr
    have hall := ready_nil_all hs hf hr
    refine hdone _ V w ?_ (fun j hj => hall j (by omega))
    rcases hV with ⟨hnf, hV, hG⟩ | ⟨_, hZ⟩
    · exact henter _ V w (fun j hj _ => ⟨hV j (hall j (by omega)), hall j (by omega)⟩) hnf hG
    · exact hZ
  · simp only [unlisted]
    exact Nat.le_trans List.countP_le_length (by simp)
  · have hno : ∀ j, (Array.replicate l.toArray.size false).getD j false = false := by
      intro j
      simp only [Array.getD_eq_getD_getElem?, Array.getElem?_replicate]
      split <;> simp
    refine ⟨by simp, V0, rfl, .inl ⟨fun j _ _ => hno j, fun j hj => ?_, ?_⟩⟩
    · rw [hno] at hj; cases hj
    · rw [show (fun j => (Array.replicate l.toArray.size false).getD j false) = fun _ => false from funext hno]; exact hG
theorem wp_region_slotsV {id : Nat} {w : World} (hm : P.follows .mixedOrders = true) (fin : Nat → Bool) (R : World → World → Prop) (S : Nat → Value → World → Prop) (T : (Nat → Value) → Act) (G : (Nat → Bool) → (Nat → Value) → World → Prop) (Z : (Nat → Bool) → (Nat → Value) → World → Prop) (l : List Oper)
    (hf : fwd .any l.toArray = true) (hc : covers .any fin l.toArray = true) (hR : ∀ j v w w', R w w' → S j v w → S j v w')
    (V0 : Nat → Value) (a : Act) (ha : a = T V0)
    (hT : StepAll (fun i o => ∀ V v, (T V).put o.dst v = T (updV V i v)) l 0) (hG : G (fun _ => false) V0 w.drew)
    (henter : ∀ L V w, (∀ j, j < l.length → fin j = false → S j (V j) w ∧ L j = true) → (∀ j, j < l.length → fin j = true → L j = false) → G L V w → Z L V w)
    (hdone : ∀ L V w, Z L V w → (∀ j, j < l.length → L j = true) → Q .normal (T V) w)
    (hstep : StepAll (fun i o => if fin i = true then OwesF P l.toArray Q Z T i o else OwesV P .any l.toArray Q R S T G i o) l 0) : (Code.region id l.toArray true).wp P Q a w :=
  wp_region_any hm (by rw [ha]; exact wpAny_slotsV fin R S T G Z l hf hc hR hT hstep henter hdone V0 _ hG)
end
section
variable {P : Program} {ops : Array Oper} {Q : Exit → Act → World → Prop} {md : Region.Mode} {fin : Nat → Bool} {R : World → World → Prop} {S : Nat → Value → World → Prop} {T : (Nat → Value) → Act} {G : (Nat → Bool) → (Nat → Value) → World → Prop} {Z : (Nat → Bool) → (Nat → Value) → World → Prop} {n : Nat} {o : Oper} {l : List Oper}
def OwedV (P : Program) (md : Region.Mode) (Q : Exit → Act → World → Prop) (R : World → World → Prop) (S : Nat → Value → World → Prop) (T : (Nat → Value) → Act) (G : (Nat → Bool) → (Nat → Value) → World → Prop) (i : Nat) (o : Oper) : Prop :=
  ∀ L V w, (∀ j, waits md o j = true → S j (V j) w ∧ L j = true) → G L V w → L i = false →
    ∀ K : Act → World → Prop, (∀ a' v w', a' = (T V).put o.dst v → R w w' → G (updL L i) (updV V i v) w' → S i v w' → K a' w') → Oper.wp P o (T V) w K Q
theorem stepNV (hfi : fin n = false) (hgd : o.guard = none) (h : OwedV P md Q R S T G n o) (hs : StepAll (fun i o => if fin i = true then OwesF P ops Q Z T i o else OwesV P md ops Q R S T G i o) l (n + 1)) :
    StepAll (fun i o => if fin i = true then OwesF P ops Q Z T i o else OwesV P md ops Q R S T G i o) (o :: l) n := by
  refine ⟨?_, hs⟩
  simp only [hfi, Bool.false_eq_true, if_false]
  intro L V w h1 h2 h3 K hK
  rw [if_pos (by simp [Region.wanted, hgd])]
  exact h L V w h1 h2 h3 K hK
theorem stepFV (hfi : fin n = true) (hgd : o.guard = none) (h : ∀ L V w, Z L V w → L n = false → ∀ K : Act → World → Prop, (∀ a' v w', a' = (T V).put o.dst v → Z (updL L n) (updV V n v) w' → K a' w') → Oper.wp P o (T V) w K Q) (hs : StepAll (fun i o => if fin i = true then OwesF P ops Q Z T i o else OwesV P md ops Q R S T G i o) l (n + 1)) :
    StepAll (fun i o => if fin i = true then OwesF P ops Q Z T i o else OwesV P md ops Q R S T G i o) (o :: l) n := by
  refine ⟨?_, hs⟩
  simp only [hfi, if_true]
  intro L V w h1 h2 K hK
  rw [if_pos (by simp [Region.wanted, hgd])]
  exact h L V w h1 h2 K hK
end
end Go.Proofs.Ythhibeepfecmdaa
