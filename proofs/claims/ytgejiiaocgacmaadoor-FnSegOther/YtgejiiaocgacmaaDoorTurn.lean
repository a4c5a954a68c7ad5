/- A text as bytes of which one is turned, as a text again. -/
import Derived.Test.YtgejiiaocgacmaaDoorNumG
import Derived.Laws.IdiomStrings
namespace Go.Proofs.YtgejiiaocgacmaaDoor
open Go.ChangeShapes Go.WideShapes Go.ChangeAt Go.RowKit

theorem byteAt_data (s : ByteArray) (i : Nat) (h : i < s.data.size) : byteAt s i = s.data[i].toNat := by
  unfold byteAt
  rw [List.getD, List.getElem?_eq_getElem (by simpa using h)]
  simp
theorem bytes_new (s : ByteArray) (w : World) : ∃ (cap : Nat) (W : World), (convert 9 31 (.string s)).run Tryd.prog w = .ok (.slice (some ⟨w.heap.size, 0, none⟩) s.size cap) W ∧
    (∀ i, i < s.size → W.cell? ⟨w.heap.size, i, none⟩ = some (.int .u8 (byteAt s i : Nat))) ∧ (∀ i, i < s.size → W.frozen? ⟨w.heap.size, i, none⟩ = false) ∧ Below w.heap.size w W ∧ w.heap.size < W.heap.size := by
  have hrun := run_bytes_of_string (P := Tryd.prog) w 9 31 5 s Tryd.underlying9 Tryd.underlying31 Tryd.underlying5
  have hat := fun i (hi : i < s.data.size) => bytesRow_at s (grownCap w s.size 0 5) i hi
  generalize bytesRow s (grownCap w s.size 0 5) = R at hrun hat
  refine ⟨_, _, hrun, fun i hi => ?_, fun i hi => ?_, ((Below.refl _ _).drew).alloc (Nat.le_refl _) _, by simp⟩
  · have hi' : i < s.data.size := hi
    have h := World.cell?_alloc_mark w.drew R 5 (R.size, R.size + 1) i
    rw [byteAt_data s i hi']
    exact h.trans (hat i hi')
  · have hi' : i < s.data.size := hi
    have hlt : i < R.size := by
      rcases Nat.lt_or_ge i R.size with h | h
      · exact h
      · have := hat i hi'
        rw [Array.getElem?_eq_none h] at this
        cases this
    have h := World.frozen?_alloc_mark w.drew R 5 R.size (R.size + 1) i
    refine Eq.trans h ?_
    simp; omega
def setB (s : ByteArray) (k v : Nat) : ByteArray := ⟨(s.data.toList.set k (UInt8.ofNat v)).toArray⟩
theorem setB_size (s : ByteArray) (k v : Nat) : (setB s k v).size = s.size := by
  show (s.data.toList.set k (UInt8.ofNat v)).toArray.size = s.data.size
  simp
theorem setB_split (s : ByteArray) (k v : Nat) (h : k < s.size) :
    ∃ l r b, s.data.toList = l ++ b :: r ∧ (setB s k v).data.toList = l ++ UInt8.ofNat v :: r ∧ b.toNat = byteAt s k := by
  have h' : k < s.data.toList.length := by simpa using h
  refine ⟨s.data.toList.take k, s.data.toList.drop (k + 1), s.data.toList[k], ?_, ?_, ?_⟩
  · rw [List.getElem_cons_drop, List.take_append_drop]
  · show s.data.toList.set k (UInt8.ofNat v) = _
    rw [List.set_eq_take_append_cons_drop, if_pos h']
  · unfold byteAt
    rw [List.getD, List.getElem?_eq_getElem h']
    rfl
theorem bytes_turned (s : ByteArray) (W : World) (g cap k v : Nat) (hc : ∀ i, i < s.size → W.cell? ⟨g, i, none⟩ = some (.int .u8 (byteAt s i : Nat))) (hk : k < s.size) (hv : v < 256) :
    (convert 31 9 (.slice (some ⟨g, 0, none⟩) s.size cap)).run Tryd.prog (W.setCell ⟨g, k, none⟩ (.int .u8 (v : Int))) = .ok (.string (setB s k v)) (W.setCell ⟨g, k, none⟩ (.int .u8 (v : Int))) := by
  have hlen : (s.data.toList.set k (UInt8.ofNat v)).length = s.size := by simp
  have h := run_convert_bytes_back (P := Tryd.prog) (W.setCell ⟨g, k, none⟩ (.int .u8 (v : Int))) 31 9 5 ⟨g, 0, none⟩ cap (s.data.toList.set k (UInt8.ofNat v)) Tryd.underlying31 Tryd.underlying5 Tryd.underlying9 (fun j hj => by
    have hj' : j < s.size := by rw [hlen] at hj; exact hj
    have hadd : (⟨g, 0, none⟩ : Addr).add j = ⟨g, j, none⟩ := by unfold Addr.add; split <;> simp_all
    rw [hadd, List.getElem_set]
    by_cases e : k = j
    · subst e
      rw [World.cell?_setCell_same _ _ _ (hc k hk), if_pos rfl, UInt8.toNat_ofNat', Nat.mod_eq_of_lt hv]
    · rw [World.cell?_setCell_other _ _ _ _ (fun h => e (by injection h)), hc j hj', if_neg e]
      congr 2
      unfold byteAt
      rw [List.getD, List.getElem?_eq_getElem (by simpa using hj')]
      rfl)
  rw [hlen] at h
  exact h
end Go.Proofs.YtgejiiaocgacmaaDoor
