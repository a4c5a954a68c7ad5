/- A region that draws its order, by what its slots hold: each operation is looked at once, whatever was listed ahead of it. Nothing of the program. -/
import Derived.Test.YtfienpoebndfpaaOrdI
import Derived.RegionTactic
namespace Go.Proofs.Ytfienpoebndfpaa
section
variable {P : Program} {ops : Array Oper} {Q : Exit → Act → World → Prop} {md : Region.Mode}
def updL (L : Nat → Bool) (i : Nat) : Nat → Bool := fun j => if j = i then true else L j
def updV (V : Nat → Value) (i : Nat) (v : Value) : Nat → Value := fun j => if j = i then v else V j
/-- Each operation waits for earlier ones alone. -/
def fwd (md : Region.Mode) (ops : Array Oper) : Bool := (List.range ops.size).all fun i => ((ops[i]?).map fun o => o.after.toList.all fun e => !Region.binds md e || decide (e.on < i)).getD true
theorem fwd_lt (hf : fwd md ops = true) {i : Nat} {o : Oper} (ho : ops[i]? = some o) {e : Edge} (he : e ∈ o.after) (hb : Region.binds md e = true) : e.on < i := by
  have hi : i < ops.size := by
    rcases Nat.lt_or_ge i ops.size with k | k
    · exact k
    · rw [Array.getElem?_eq_none k] at ho; cases ho
  have := List.all_eq_true.1 hf i (List.mem_range.2 hi)
  rw [ho] at this
  simp only [Option.map_some, Option.getD_some, List.all_eq_true] at this
  have h2 := this e (Array.mem_toList_iff.2 he)
  rw [hb] at h2
  simpa using h2
theorem getD_ft {l : Array Bool} {i : Nat} (h : i < l.size) : l.getD i true = l.getD i false := by simp [Array.getD, h]
theorem ready_nil_all {listed : Array Bool} (hs : listed.size = ops.size) (hf : fwd md ops = true) (h : Region.ready md ops listed = []) : ∀ i, i < ops.size → listed.getD i false = true := by
  intro i
  induction i using Nat.strongRecOn with
  | ind i ih =>
    intro hi
    cases hc : listed.getD i false with
    | true => rfl
    | false =>
      exfalso
      have ho : ops[i]? = some ops[i] := Array.getElem?_eq_getElem hi
      have : i ∈ Region.ready md ops listed := by
        simp only [Region.ready, List.mem_filter, List.mem_range, Bool.and_eq_true, Bool.not_eq_true']
        refine ⟨hi, by rw [getD_ft (by omega)]; exact hc, ?_⟩
        rw [ho]
        simp only [Option.map_some, Option.getD_some, Array.all_eq_true']
        intro e he
        cases hb : Region.binds md e with
        | false => simp
        | true =>
          have hlt := fwd_lt hf ho he hb
          rw [ih e.on hlt (by omega)]
          simp
      rw [h] at this
      cases this
def StepAll (p : Nat → Oper → Prop) : List Oper → Nat → Prop
  | [], _ => True
  | o :: l, n => p n o ∧ StepAll p l (n + 1)
theorem StepAll.nil {p : Nat → Oper → Prop} {n : Nat} : StepAll p [] n := trivial
theorem StepAll.cons {p : Nat → Oper → Prop} {n : Nat} {o : Oper} {l : List Oper} (h : p n o) (hs : StepAll p l (n + 1)) : StepAll p (o :: l) n := ⟨h, hs⟩
theorem StepAll.get {p : Nat → Oper → Prop} : ∀ {l : List Oper} {n : Nat}, StepAll p l n → ∀ i o, l[i]? = some o → p (n + i) o
  | [], n, _, i, o, ho => by simp at ho
  | x :: l, n, h, 0, o, ho => by simp at ho; subst ho; exact h.1
  | x :: l, n, h, i + 1, o, ho => by
    have := StepAll.get h.2 i o (by simpa using ho)
    rw [show n + (i + 1) = n + 1 + i from by omega]; exact this
/-- The operation waits for the one at place j. -/
def waits (md : Region.Mode) (o : Oper) (j : Nat) : Bool := o.after.toList.any fun e => Region.binds md e && e.on == j
theorem waits_of {listed : Array Bool} {o : Oper} (h : (o.after.all fun e => !Region.binds md e || listed.getD e.on false) = true) {j : Nat} (hj : waits md o j = true) : listed.getD j false = true := by
  simp only [Array.all_eq_true'] at h
  simp only [waits, List.any_eq_true] at hj
  obtain ⟨e, he, hb⟩ := hj
  have he := Array.mem_toList_iff.1 he
  rw [Bool.and_eq_true, beq_iff_eq] at hb
  have := h e he
  rw [hb.1, hb.2] at this
  simpa using this
/-- What one operation owes: from what its forerunners' slots hold it goes on, keeps what stands, and fills its slot. -/
def Owes (P : Program) (md : Region.Mode) (ops : Array Oper) (Q : Exit → Act → World → Prop) (R : World → World → Prop) (S : Nat → Value → World → Prop) (T : (Nat → Value) → Act) (G : (Nat → Bool) → World → Prop) (i : Nat) (o : Oper) : Prop :=
  ∀ L V w, (∀ j, waits md o j = true → S j (V j) w) → G L w → L i = false →
    ∀ K : Act → World → Prop, (∀ a' v w', a' = (T V).put o.dst v → R w w' → G (updL L i) w' → S i v w' → K a' w') →
      if Region.wanted o (yielded ops (T V).tmps) = true then Oper.wp P o (T V) w K Q else K ((T V).put o.dst undef) w
/-- What one of those owes that come behind all others. -/
def OwesF (P : Program) (ops : Array Oper) (Q : Exit → Act → World → Prop) (Z : (Nat → Bool) → (Nat → Value) → World → Prop) (T : (Nat → Value) → Act) (i : Nat) (o : Oper) : Prop :=
  ∀ L V w, Z L V w → L i = false →
    ∀ K : Act → World → Prop, (∀ a' v w', a' = (T V).put o.dst v → Z (updL L i) (updV V i v) w' → K a' w') →
      if Region.wanted o (yielded ops (T V).tmps) = true then Oper.wp P o (T V) w K Q else K ((T V).put o.dst undef) w
/-- Who is among the last waits for all that are not. -/
def covers (md : Region.Mode) (fin : Nat → Bool) (ops : Array Oper) : Bool :=
  (List.range ops.size).all fun i => !fin i || ((ops[i]?).map fun o => (List.range ops.size).all fun j => fin j || waits md o j).getD true
theorem covers_of {fin : Nat → Bool} (h : covers md fin ops = true) {i : Nat} {o : Oper} (ho : ops[i]? = some o) (hi : i < ops.size) (hfi : fin i = true) {j : Nat} (hj : j < ops.size) (hfj : fin j = false) : waits md o j = true := by
  have := List.all_eq_true.1 h i (List.mem_range.2 hi)
  rw [hfi, ho] at this
  simp only [Bool.not_true, Bool.false_or, Option.map_some, Option.getD_some] at this
  have := List.all_eq_true.1 this j (List.mem_range.2 hj)
  rw [hfj] at this
  simpa using this
theorem wpAny_slots (fin : Nat → Bool) (R : World → World → Prop) (S : Nat → Value → World → Prop) (T : (Nat → Value) → Act) (G : (Nat → Bool) → World → Prop) (Z : (Nat → Bool) → (Nat → Value) → World → Prop) (l : List Oper)
    (hf : fwd md l.toArray = true) (hc : covers md fin l.toArray = true) (hR : ∀ j v w w', R w w' → S j v w → S j v w')
    (hT : StepAll (fun i o => ∀ V v, (T V).put o.dst v = T (updV V i v)) l 0)
    (hstep : StepAll (fun i o => if fin i = true then OwesF P l.toArray Q Z T i o else Owes P md l.toArray Q R S T G i o) l 0)
    (henter : ∀ L V w, (∀ j, j < l.length → fin j = false → S j (V j) w ∧ L j = true) → (∀ j, j < l.length → fin j = true → L j = false) → G L w → Z L V w)
    (hdone : ∀ L V w, Z L V w → (∀ j, j < l.length → L j = true) → Q .normal (T V) w)
    (V0 : Nat → Value) (w0 : World) (hG : G (fun _ => false) w0) :
    wpAny P md l.toArray Q l.toArray.size (Array.replicate l.toArray.size false) (T V0) w0 := by
  have hsz : l.toArray.size = l.length := by simp
  refine wpAny_inv (fun listed a w => listed.size = l.toArray.size ∧ ∃ V, a = T V ∧
    (((∀ j, j < l.length → fin j = true → listed.getD j false = false) ∧ (∀ j, listed.getD j false = true → S j (V j) w) ∧ G (fun j => listed.getD j false) w) ∨
     ((∀ j, j < l.length → fin j = false → listed.getD j false = true) ∧ Z (fun j => listed.getD j false) V w))) ?_ ?_ _ _ _ _ ?_ ?_
  · rintro listed a w i ⟨hs, V, rfl, hV⟩ hi
    obtain ⟨hlt, hun⟩ := ready_mem hi
    have hlt' : i < listed.size := by omega
    have hli : i < l.length := by omega
    have hun' : listed.getD i false = false := by rw [← getD_ft hlt']; exact hun
    have ho : l.toArray[i]? = some l.toArray[i] := Array.getElem?_eq_getElem hlt
    have ho' : l[i]? = some l.toArray[i] := by simp
    have hafter : (l.toArray[i].after.all fun e => !Region.binds md e || listed.getD e.on false) = true := by
      simp only [Region.ready, List.mem_filter, List.mem_range, Bool.and_eq_true, Bool.not_eq_true'] at hi
      have := hi.2.2
      rw [ho] at this
      simpa only [Option.map_some, Option.getD_some] using this
    have hst := hstep.get i _ ho'
    have hTT := hT.get i _ ho'
    rw [Nat.zero_add] at hst hTT
    have hset : (fun j => (listed.setIfInBounds i true).getD j false) = updL (fun j => listed.getD j false) i := by
      funext j
      by_cases e : j = i
      · subst e; simp [updL, Array.getD_eq_getD_getElem?, hlt']
      · simp only [updL, if_neg e, Array.getD_eq_getD_getElem?]
        rw [Array.getElem?_setIfInBounds_ne (by omega)]
    have hsetj : ∀ j, (listed.setIfInBounds i true).getD j false = updL (fun j => listed.getD j false) i j := fun j => congrFun hset j
    cases hfi : fin i with
    | false =>
      simp only [hfi, Bool.false_eq_true, if_false] at hst
      rcases hV with ⟨hnf, hV, hG⟩ | ⟨hall, _⟩
      · refine wpOp_step ho (fun K hK => hst _ V w (fun j hj => hV j (waits_of hafter hj)) hG hun' K (fun a' v w' ha hr hg hs' => ?_))
        subst ha
        refine hK _ _ ⟨by simpa using hs, updV V i v, hTT V v, .inl ⟨?_, ?_, by rw [hset]; exact hg⟩⟩
        · intro j hj hfj
          have hne : j ≠ i := fun e => by subst e; rw [hfi] at hfj; cases hfj
          rw [hsetj]; simp only [updL, if_neg hne]; exact hnf j hj hfj
        · intro j hj
          rw [hsetj] at hj
          by_cases e : j = i
          · subst e; simp only [updV, if_true]; exact hs'
          · simp only [updL, if_neg e] at hj
            simp only [updV, if_neg e]
            exact hR _ _ _ _ hr (hV j hj)
      · have := hall i hli hfi
        rw [hun'] at this; cases this
    | true =>
      simp only [hfi, if_true] at hst
      have hcov : ∀ j, j < l.length → fin j = false → listed.getD j false = true := fun j hj hfj => waits_of hafter (covers_of hc ho hlt hfi (by omega) hfj)
      have hZ : Z (fun j => listed.getD j false) V w := by
        rcases hV with ⟨hnf, hV, hG⟩ | ⟨_, hZ⟩
        · exact henter _ V w (fun j hj hfj => ⟨hV j (hcov j hj hfj), hcov j hj hfj⟩) hnf hG
        · exact hZ
      refine wpOp_step ho (fun K hK => hst _ V w hZ hun' K (fun a' v w' ha hz => ?_))
      subst ha
      refine hK _ _ ⟨by simpa using hs, updV V i v, hTT V v, .inr ⟨?_, by rw [hset]; exact hz⟩⟩
      intro j hj hfj
      have hne : j ≠ i := fun e => by subst e; rw [hfi] at hfj; cases hfj
      rw [hsetj]; simp only [updL, if_neg hne]; exact hcov j hj hfj
  · rintro listed a w ⟨hs, V, rfl, hV⟩ hr
    have hall := ready_nil_all hs hf hr
    refine hdone _ V w ?_ (fun j hj => hall j (by omega))
    rcases hV with ⟨hnf, hV, hG⟩ | ⟨_, hZ⟩
    · exact henter _ V w (fun j hj _ => ⟨hV j (hall j (by omega)), hall j (by omega)⟩) hnf hG
    · exact hZ
  · simp only [unlisted]
    exact Nat.le_trans List.countP_le_length (by simp)
  · have hno : ∀ j, (Array.replicate l.toArray.size false).getD j false = false := by
      intro j
      simp only [Array.getD_eq_getD_getElem?, Array.getElem?_replicate]
      split <;> simp
    refine ⟨by simp, V0, rfl, .inl ⟨fun j _ _ => hno j, fun j hj => ?_, ?_⟩⟩
    · rw [hno] at hj; cases hj
    · rw [show (fun j => (Array.replicate l.toArray.size false).getD j false) = fun _ => false from funext hno]; exact hG
theorem wp_region_slots {id : Nat} {w : World} (hm : P.follows .mixedOrders = true) (fin : Nat → Bool) (R : World → World → Prop) (S : Nat → Value → World → Prop) (T : (Nat → Value) → Act) (G : (Nat → Bool) → World → Prop) (Z : (Nat → Bool) → (Nat → Value) → World → Prop) (l : List Oper)
    (hf : fwd .any l.toArray = true) (hc : covers .any fin l.toArray = true) (hR : ∀ j v w w', R w w' → S j v w → S j v w')
    (V0 : Nat → Value) (a : Act) (ha : a = T V0)
    (hT : StepAll (fun i o => ∀ V v, (T V).put o.dst v = T (updV V i v)) l 0) (hG : G (fun _ => false) w.drew)
    (henter : ∀ L V w, (∀ j, j < l.length → fin j = false → S j (V j) w ∧ L j = true) → (∀ j, j < l.length → fin j = true → L j = false) → G L w → Z L V w)
    (hdone : ∀ L V w, Z L V w → (∀ j, j < l.length → L j = true) → Q .normal (T V) w)
    (hstep : StepAll (fun i o => if fin i = true then OwesF P l.toArray Q Z T i o else Owes P .any l.toArray Q R S T G i o) l 0) : (Code.region id l.toArray true).wp P Q a w :=
  wp_region_any hm (by rw [ha]; exact wpAny_slots fin R S T G Z l hf hc hR hT hstep henter hdone V0 _ hG)
end
end Go.Proofs.Ytfienpoebndfpaa
