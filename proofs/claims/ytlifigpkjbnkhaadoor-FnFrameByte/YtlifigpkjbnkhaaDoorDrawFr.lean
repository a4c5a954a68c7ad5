/- The draws of frames, and of texts that begin with one. -/
import Derived.Test.YtlifigpkjbnkhaaDoorDrawI
import Derived.Test.YtlifigpkjbnkhaaDoorDrawY
import Derived.Test.YtlifigpkjbnkhaaDoorL3P
namespace Go.Proofs.YtlifigpkjbnkhaaDoor
open Go.ChangeShapes Go.WideShapes Go.ChangeAt Go.RowKit
set_option linter.unusedVariables false
set_option maxHeartbeats 1000000 in
theorem DrawFramePut_any (a : Option Addr) (len cap : Nat) (zs : List Int) (w : World) (h : IsRow .u8 w a len cap zs) :
    Calls Tryd.prog 19 #[.slice a len cap] w fun e w' => ∃ (p gv : Bool) (c v q : Int) (d : ByteArray), d.size ≤ 54 ∧ e = .returned (.agg #[.bool p, .bool gv, .int .i64 c, .int .i64 v, .int .i64 q, .string d]) ∧ Below w.heap.size w w' := by
  have H : Hid (IsRow .u8 (w.alloc (.cells #[.bool false, .bool false, .int .i64 0, .int .i64 0, .int .i64 0, .string ⟨#[]⟩] 23)) a len cap zs) := h.keep ((Below.refl _ _).alloc (Nat.le_refl _) _)
  clear h
  go_enter Tryd.func19, Tryd.ntmps19
  go_wp2_with fail
  refine (l1Open_any a len cap zs _ H.out).mono ?_
  rintro e w1 ⟨rfl, hb1, hr1⟩
  have HB1 : Hid (Below (w.heap.size + 1) (w.alloc (.cells #[.bool false, .bool false, .int .i64 0, .int .i64 0, .int .i64 0, .string ⟨#[]⟩] 23)) w1) := hb1.mono (by simp)
  simp at hr1
  have HR1 : Hid (Rd 0 w1 (w.heap.size + 1)) := hr1
  clear hb1 hr1
  go_wp2_with fail
  refine (l15AnyFrame_any 0 (w.heap.size + 1) w1 (by omega) HR1.out).mono ?_
  rintro e w2 ⟨p, gv, c, v, q, d, _, _, _, _, _, _, hd, rfl, ho2, hr2⟩
  have hG : w2.heap[w.heap.size]? = some (.cells #[.bool false, .bool false, .int .i64 0, .int .i64 0, .int .i64 0, .string ⟨#[]⟩] 23) := get_only ho2 (get_below HB1.out (get_new rfl) (by omega)) (by omega)
  obtain ⟨k0, k1, k2, k3, k4, k5⟩ := cells6_of hG
  have f0 : ∀ j, w2.frozen? ⟨w.heap.size, j, none⟩ = false := fun j => frozen_get hG
  have HG : Hid _ := hG
  have HB2 : Hid (Below w.heap.size w w2) := (((Below.refl _ _).alloc (Nat.le_refl _) _).trans (HB1.out.mono (by omega))).trans (ho2.below (by omega) (by have := HB1.out.size; simp at this; omega))
  clear ho2 hr2 hG
  go_wp2_with fail
  refine bodyPost_ret (v := .agg #[.bool p, .bool gv, .int .i64 c, .int .i64 v, .int .i64 q, .string d]) (results_cell_row Tryd.results19 _ _ w.heap.size 23 #[.bool p, .bool gv, .int .i64 c, .int .i64 v, .int .i64 q, .string d] (0, 0) _ rfl ?_ Tryd.underlying23 rfl cells26) rfl ⟨_, _, _, _, _, _, hd, rfl, ?_⟩
  · exact get_set (get_set (get_set (get_set (get_set (get_set (HG.out) rfl) rfl) rfl) rfl) rfl) rfl
  · exact belowS (belowS (belowS (belowS (belowS (belowS (HB2.out) (Nat.le_refl _)) (Nat.le_refl _)) (Nat.le_refl _)) (Nat.le_refl _)) (Nat.le_refl _)) (Nat.le_refl _)
set_option maxHeartbeats 1000000 in
theorem DrawFrameGet_any (a : Option Addr) (len cap : Nat) (zs : List Int) (w : World) (h : IsRow .u8 w a len cap zs) :
    Calls Tryd.prog 24 #[.slice a len cap] w fun e w' => ∃ s : ByteArray, s.size ≤ 100 ∧ e = .returned (.string s) ∧ Below w.heap.size w w' := by
  have H : Hid _ := h
  clear h
  go_enter Tryd.func24, Tryd.ntmps24
  go_wp2_with fail
  refine (l1Open_any a len cap zs _ H.out).mono ?_
  rintro e w1 ⟨rfl, hb1, hr1⟩
  have HB1 : Hid (Below w.heap.size w w1) := hb1
  have HR1 : Hid (Rd 0 w1 w.heap.size) := hr1
  clear hb1 hr1
  go_wp2_with fail
  refine (l15Frame_any 0 w.heap.size _ (by omega) HR1.out).mono ?_
  rintro e w2 ⟨p, gv, c, v, q, d, h1, h2, h3, h4, h5, h6, h7, rfl, ho2, hr2⟩
  have HB2 : Hid (Below w.heap.size w w2) := HB1.out.trans (ho2.below (Nat.le_refl _) HB1.out.size)
  have HR2 : Hid (Rd 68 w2 w.heap.size) := hr2
  clear ho2 hr2
  go_wp2_with fail
  refine (l3Put_some p gv c v q d _ h1 h2 h3 h4 h5 h6 h7).mono ?_
  rintro e w3 ⟨t, hsz, rfl, hb3⟩
  have HB3 : Hid (Below w.heap.size w w3) := HB2.out.trans (hb3.mono HB2.out.size)
  have HR3 : Hid (Rd 68 w3 w.heap.size) := HR2.out.below hb3
  clear hb3
  go_wp2_with fail
  refine (pickI 68 w.heap.size 4 _ (by omega) (by omega) (by omega) HR3.out).mono ?_
  rintro e w4 ⟨v0, hv, rfl, ho4, hr4⟩
  have HB4 : Hid (Below w.heap.size w w4) := HB3.out.trans (ho4.below (Nat.le_refl _) HB3.out.size)
  have HR4 : Hid (Rd 69 w4 w.heap.size) := hr4
  clear ho4 hr4
  have hc : v0 = 0 ∨ v0 = 1 ∨ v0 = 2 ∨ v0 = 3 := by omega
  clear hv
  rcases hc with rfl | rfl | rfl | rfl
  · go_wp2_with fail
    refine (l15Turn_any 69 w.heap.size t _ (by omega) (by omega) HR4.out).mono ?_
    rintro e w5 ⟨u, hu, rfl, ho5, hr5⟩
    have HB5 : Hid (Below w.heap.size w w5) := HB4.out.trans (ho5.below (Nat.le_refl _) HB4.out.size)
    clear ho5 hr5
    go_wp2_with fail
    go_ret
    exact ⟨u, by omega, rfl, HB5.out⟩
  · go_wp2_with fail
    refine (l15Text_any 69 6 w.heap.size _ (by omega) (by omega) HR4.out).mono ?_
    rintro e w5 ⟨u, hu, rfl, ho5, hr5⟩
    have HB5 : Hid (Below w.heap.size w w5) := HB4.out.trans (ho5.below (Nat.le_refl _) HB4.out.size)
    clear ho5 hr5
    have hbnd : (t ++ u).size ≤ 100 := by rw [ByteArray.size_append]; omega
    go_wp2_with fail
    go_ret
    exact ⟨_, hbnd, rfl, HB5.out⟩
  · go_wp2_with fail
    refine (pickI 69 w.heap.size ((t.size : Int) + 1) _ (by omega) (by omega) (by omega) HR4.out).mono ?_
    rintro e w5 ⟨v5, hv5, rfl, ho5, hr5⟩
    have HB5 : Hid (Below w.heap.size w w5) := HB4.out.trans (ho5.below (Nat.le_refl _) HB4.out.size)
    clear ho5 hr5
    have hbnd : (t.extract 0 v5).size ≤ 100 := by rw [ByteArray.size_extract]; omega
    have hv6 : (v5 : Int) ≤ t.size := by omega
    go_wp2_with fail
    go_ret
    exact ⟨_, hbnd, rfl, HB5.out⟩
  · go_wp2_with fail
    go_ret
    exact ⟨t, by omega, rfl, HB4.out⟩
end Go.Proofs.YtlifigpkjbnkhaaDoor
