/- The draws of farms as texts. -/
import Derived.Test.YtlifigpkjbnkhaaDoorDrawG
import Derived.Test.YtlifigpkjbnkhaaDoorDrawY
import Derived.Test.YtlifigpkjbnkhaaDoorFaP
namespace Go.Proofs.YtlifigpkjbnkhaaDoor
open Go.ChangeShapes Go.WideShapes Go.ChangeAt Go.RowKit
set_option linter.unusedVariables false
set_option maxHeartbeats 1000000 in
theorem DrawFarmPut_any (a : Option Addr) (len cap : Nat) (zs : List Int) (w : World) (h : IsRow .u8 w a len cap zs) :
    Calls Tryd.prog 14 #[.slice a len cap] w fun e w' => ∃ (s wt ag : Bool) (c n : Int), -1 ≤ n ∧ n ≤ 256 ∧ e = .returned (.agg #[.bool s, .bool wt, .bool ag, .int .i64 c, .int .i64 n]) ∧ Below w.heap.size w w' := by
  have H : Hid (IsRow .u8 (w.alloc (.cells #[.bool false, .bool false, .bool false, .int .i64 0, .int .i64 0] 29)) a len cap zs) := h.keep ((Below.refl _ _).alloc (Nat.le_refl _) _)
  clear h
  go_enter Tryd.func14, Tryd.ntmps14
  go_wp2_with fail
  refine (l1Open_any a len cap zs _ H.out).mono ?_
  rintro e w1 ⟨rfl, hb1, hr1⟩
  have HB1 : Hid (Below (w.heap.size + 1) (w.alloc (.cells #[.bool false, .bool false, .bool false, .int .i64 0, .int .i64 0] 29)) w1) := hb1.mono (by simp)
  simp at hr1
  have HR1 : Hid (Rd 0 w1 (w.heap.size + 1)) := hr1
  clear hb1 hr1
  go_wp2_with fail
  refine (l15AnyFarm_any 0 (w.heap.size + 1) w1 (by omega) HR1.out).mono ?_
  rintro e w2 ⟨s, wt, ag, c, n, hn0, hn1, rfl, ho2, hr2⟩
  have hG : w2.heap[w.heap.size]? = some (.cells #[.bool false, .bool false, .bool false, .int .i64 0, .int .i64 0] 29) := get_only ho2 (get_below HB1.out (get_new rfl) (by omega)) (by omega)
  obtain ⟨k0, k1, k2, k3, k4⟩ := cells5_of hG
  have f0 : ∀ j, w2.frozen? ⟨w.heap.size, j, none⟩ = false := fun j => frozen_get hG
  have HG : Hid _ := hG
  have HB2 : Hid (Below w.heap.size w w2) := (((Below.refl _ _).alloc (Nat.le_refl _) _).trans (HB1.out.mono (by omega))).trans (ho2.below (by omega) (by have := HB1.out.size; simp at this; omega))
  clear ho2 hr2 hG
  go_wp2_with fail
  refine bodyPost_ret (v := .agg #[.bool s, .bool wt, .bool ag, .int .i64 c, .int .i64 n]) (results_cell_row Tryd.results14 _ _ w.heap.size 29 #[.bool s, .bool wt, .bool ag, .int .i64 c, .int .i64 n] (0, 0) _ rfl ?_ Tryd.underlying29 rfl cellsFarm) rfl ⟨_, _, _, _, _, hn0, hn1, rfl, ?_⟩
  · exact get_set (get_set (get_set (get_set (get_set (HG.out) rfl) rfl) rfl) rfl) rfl
  · exact belowS (belowS (belowS (belowS (belowS (HB2.out) (Nat.le_refl _)) (Nat.le_refl _)) (Nat.le_refl _)) (Nat.le_refl _)) (Nat.le_refl _)
theorem rd_below {N g : Nat} {W W' : World} (h : Rd N W g) (hb : Below W.heap.size W W') : Rd N W' g := h.below hb
theorem faPut_size (s wt ag : Bool) (c n : Int) : (faPut s wt ag c n).size ≤ 4 := by
  unfold faPut; split
  · exact Nat.le_refl _
  · exact Nat.zero_le _
set_option maxHeartbeats 1000000 in
theorem DrawFarmGet_any (a : Option Addr) (len cap : Nat) (zs : List Int) (w : World) (h : IsRow .u8 w a len cap zs) :
    Calls Tryd.prog 18 #[.slice a len cap] w fun e w' => ∃ s : ByteArray, s.size ≤ 10 ∧ e = .returned (.string s) ∧ Below w.heap.size w w' := by
  have H : Hid _ := h
  clear h
  go_enter Tryd.func18, Tryd.ntmps18
  go_wp2_with fail
  refine (l1Open_any a len cap zs _ H.out).mono ?_
  rintro e w1 ⟨rfl, hb1, hr1⟩
  have HB1 : Hid (Below w.heap.size w w1) := hb1
  have HR1 : Hid (Rd 0 w1 w.heap.size) := hr1
  clear hb1 hr1
  go_wp2_with fail
  refine (l15Farm_any 0 w.heap.size _ (by omega) HR1.out).mono ?_
  rintro e w2 ⟨s, wt, ag, c, n, hn0, hn1, rfl, ho2, hr2⟩
  have HB2 : Hid (Below w.heap.size w w2) := HB1.out.trans (ho2.below (Nat.le_refl _) HB1.out.size)
  have HR2 : Hid (Rd 8 w2 w.heap.size) := hr2
  clear ho2 hr2
  go_wp2_with fail
  refine (specFarmPut_any _ _ _ _ _ _).mono ?_
  rintro e w3 ⟨rfl, hb3⟩
  have HB3 : Hid (Below w.heap.size w w3) := HB2.out.trans (hb3.mono HB2.out.size)
  have HR3 : Hid (Rd 8 w3 w.heap.size) := HR2.out.below hb3
  have hsz := faPut_size s wt ag c n
  generalize faPut s wt ag c n = t at *
  clear hb3
  go_wp2_with fail
  refine (pickI 8 w.heap.size 3 _ (by omega) (by omega) (by omega) HR3.out).mono ?_
  rintro e w4 ⟨v, hv, rfl, ho4, hr4⟩
  have HB4 : Hid (Below w.heap.size w w4) := HB3.out.trans (ho4.below (Nat.le_refl _) HB3.out.size)
  have HR4 : Hid (Rd 9 w4 w.heap.size) := hr4
  clear ho4 hr4
  by_cases hv0 : v = 0
  · subst hv0
    go_wp2_with fail
    refine (l15Turn_any 9 w.heap.size t _ (by omega) (by omega) HR4.out).mono ?_
    rintro e w5 ⟨u, hu, rfl, ho5, hr5⟩
    have HB5 : Hid (Below w.heap.size w w5) := HB4.out.trans (ho5.below (Nat.le_refl _) HB4.out.size)
    clear ho5 hr5
    go_wp2_with fail
    go_ret
    exact ⟨u, by omega, rfl, HB5.out⟩
  · have hne : ((v : Int) == 0) = false := by simpa using hv0
    go_wp2_with fail
    refine (l15Text_any 9 1 w.heap.size _ (by omega) (by omega) HR4.out).mono ?_
    rintro e w5 ⟨u, hu, rfl, ho5, hr5⟩
    have HB5 : Hid (Below w.heap.size w w5) := HB4.out.trans (ho5.below (Nat.le_refl _) HB4.out.size)
    clear ho5 hr5
    have hbnd : (t ++ u.extract 0 0).size ≤ 10 := by
      rw [ByteArray.size_append, ByteArray.size_extract]; omega
    go_wp2_with fail
    go_ret
    refine ⟨_, ?_, rfl, HB5.out⟩
    first | exact hbnd | omega | (simp [ByteArray.size_append, ByteArray.size_extract]; omega)
end Go.Proofs.YtlifigpkjbnkhaaDoor
