/- Proved: laws.FnRepBack returns true at every two slices of bytes (what is told is read back, and is no command), and leaves them as they were, as a tied card: io.EOF holds what the library's text lays in it. No other condition. -/
import Derived.Test.YtccpdadabndleaaDoorDpRp
import Derived.Test.YtccpdadabndleaaDoorPgB
import Derived.Test.YtccpdadabndleaaDoorRgS
import Derived.Test.YtccpdadabndleaaDoorCgI
import Derived.Test.YtccpdadabndleaaDoorCards
import Derived.Test.YtccpdadabndleaaDoorTie
import Derived.LaidMore
import Derived.Stop.LaidErr
import Derived.Stop.Joined
import Derived.Stop.ErrReads
import Derived.SevenTiedAt
import Derived.OpenShut
import Derived.ShutString
namespace Go.Proofs.YtccpdadabndleaaDoor
open Go.ChangeShapes Go.WideShapes Go.ChangeAt Go.RowKit
open Go.ChangeMaps (open_string shut_string)
set_option linter.unusedVariables false
theorem cg_down {t : ByteArray} (h : pgU t = false) : cgK t = 1 ∧ cgV t = .agg #[.int .i64 0, .int .i64 0, .int .i64 0, .int .i64 0, .int .i64 0, .string ⟨#[]⟩] := by
  have hs : cgShape t = false := by unfold cgShape; rw [h, Bool.and_false]
  have hk := cgK_1 hs
  exact ⟨hk, cgV_no (by rw [hk]; decide)⟩
set_option maxRecDepth 100000 in
set_option maxHeartbeats 4000000 in
theorem FnRepBack_walk (a0 : Option Addr) (l0 c0 : Nat) (z0 : List Int) (a1 : Option Addr) (l1 c1 : Nat) (z1 : List Int) (w : World) (h0 : IsRow .u8 w a0 l0 c0 z0) (h1 : IsRow .u8 w a1 l1 c1 z1) (he : Eof w) :
    Calls Tryd.prog 9 #[.slice a0 l0 c0, .slice a1 l1 c1] w fun e w' => e = .returned (.bool true) ∧ Below w.heap.size w w' := by
  by_cases hb0 : 1048576 < (l0 : Int)
  · go_enter Tryd.func9, Tryd.ntmps9
    go_wp2_with fail
    go_ret
    exact ⟨rfl, Below.refl _ _⟩
  by_cases hb1 : 1048576 < (l1 : Int)
  · go_enter Tryd.func9, Tryd.ntmps9
    go_wp2_with fail
    go_ret
    exact ⟨rfl, Below.refl _ _⟩
  have R0 : Hid _ := h0
  have R1 : Hid _ := h1
  have HE : Hid (Eof w) := he
  have HB : Hid (Below w.heap.size w w) := Below.refl _ _
  clear h0 h1 he
  go_enter Tryd.func9, Tryd.ntmps9
  go_wp2_with fail
  refine (DrawRepPut_any a0 l0 c0 z0 _ R0.out).mono ?_
  rintro e w1 ⟨a, c, sv, sb, tm, d, hdz, rfl, hb⟩
  replace HB : Hid (Below w.heap.size w w1) := HB.out.trans (hb.mono HB.out.size)
  replace HE : Hid (Eof w1) := HE.out.below hb
  replace R0 : Hid (IsRow .u8 w1 a0 l0 c0 z0) := IsRow.keep R0.out hb
  replace R1 : Hid (IsRow .u8 w1 a1 l1 c1 z1) := IsRow.keep R1.out hb
  clear hb
  have hdm : d.size ≤ maxLen := by unfold maxLen; omega
  have F : Hid ((w1.alloc (.cells #[.int .i64 a, .int .i64 c, .int .i64 sv, .int .i64 sb, .int .i64 tm, .string d] 35)).heap[w1.heap.size]? = some (.cells #[.int .i64 a, .int .i64 c, .int .i64 sv, .int .i64 sb, .int .i64 tm, .string d] 35)) := get_new rfl
  replace HB : Hid (Below w.heap.size w (w1.alloc (.cells #[.int .i64 a, .int .i64 c, .int .i64 sv, .int .i64 sb, .int .i64 tm, .string d] 35))) := HB.out.alloc HB.out.size _
  replace HE : Hid (Eof (w1.alloc (.cells #[.int .i64 a, .int .i64 c, .int .i64 sv, .int .i64 sb, .int .i64 tm, .string d] 35))) := HE.out.below ((Below.refl _ _).alloc (Nat.le_refl _) _)
  replace R0 : Hid (IsRow .u8 (w1.alloc (.cells #[.int .i64 a, .int .i64 c, .int .i64 sv, .int .i64 sb, .int .i64 tm, .string d] 35)) a0 l0 c0 z0) := IsRow.keep R0.out ((Below.refl _ _).alloc (Nat.le_refl _) _)
  replace R1 : Hid (IsRow .u8 (w1.alloc (.cells #[.int .i64 a, .int .i64 c, .int .i64 sv, .int .i64 sb, .int .i64 tm, .string d] 35)) a1 l1 c1 z1) := IsRow.keep R1.out ((Below.refl _ _).alloc (Nat.le_refl _) _)
  go_wp2_with fail
  refine (implRepPut_any a c sv sb tm d _ hdm).mono ?_
  rintro e w2 ⟨rfl, hb⟩
  replace F : Hid (w2.heap[w1.heap.size]? = some (.cells #[.int .i64 a, .int .i64 c, .int .i64 sv, .int .i64 sb, .int .i64 tm, .string d] 35)) := get_below hb F.out (size_of_get F.out)
  replace HB : Hid (Below w.heap.size w w2) := HB.out.trans (hb.mono HB.out.size)
  replace HE : Hid (Eof w2) := HE.out.below hb
  replace R0 : Hid (IsRow .u8 w2 a0 l0 c0 z0) := IsRow.keep R0.out hb
  replace R1 : Hid (IsRow .u8 w2 a1 l1 c1 z1) := IsRow.keep R1.out hb
  clear hb
  have HSP : Hid (∀ W, Calls Tryd.prog 34 #[.agg #[.int .i64 a, .int .i64 c, .int .i64 sv, .int .i64 sb, .int .i64 tm, .string d]] W fun e w' => e = .returned (.string (rpPut a c sv sb tm d)) ∧ Below W.heap.size W w') := fun W => specRepPut_any a c sv sb tm d W hdm
  cases hb : rpOk a c sv sb tm d with
  | false =>
    have ht : rpPut a c sv sb tm d = ⟨#[]⟩ := by unfold rpPut; rw [hb]; rfl
    rw [ht] at HSP ⊢
    clear ht hb
    obtain ⟨F_0, F_1, F_2, F_3, F_4, F_5⟩ := cells6_of F.out
    go_wp2_with fail
    clear F_0 F_1 F_2 F_3 F_4 F_5
    refine Calls.mono (HSP.out _) ?_
    rintro e w3 ⟨rfl, hb⟩
    replace F : Hid (w3.heap[w1.heap.size]? = some (.cells #[.int .i64 a, .int .i64 c, .int .i64 sv, .int .i64 sb, .int .i64 tm, .string d] 35)) := get_below hb F.out (size_of_get F.out)
    replace HB : Hid (Below w.heap.size w w3) := HB.out.trans (hb.mono HB.out.size)
    replace HE : Hid (Eof w3) := HE.out.below hb
    replace R0 : Hid (IsRow .u8 w3 a0 l0 c0 z0) := IsRow.keep R0.out hb
    replace R1 : Hid (IsRow .u8 w3 a1 l1 c1 z1) := IsRow.keep R1.out hb
    clear hb
    clear HSP
    go_wp2_with fail
    refine (DrawRepGet_any a1 l1 c1 z1 _ R1.out).mono ?_
    rintro e w4 ⟨s, hs, rfl, hb⟩
    replace F : Hid (w4.heap[w1.heap.size]? = some (.cells #[.int .i64 a, .int .i64 c, .int .i64 sv, .int .i64 sb, .int .i64 tm, .string d] 35)) := get_below hb F.out (size_of_get F.out)
    replace HB : Hid (Below w.heap.size w w4) := HB.out.trans (hb.mono HB.out.size)
    replace HE : Hid (Eof w4) := HE.out.below hb
    replace R0 : Hid (IsRow .u8 w4 a0 l0 c0 z0) := IsRow.keep R0.out hb
    replace R1 : Hid (IsRow .u8 w4 a1 l1 c1 z1) := IsRow.keep R1.out hb
    clear hb
    cases hok : rgOk s with
    | false =>
      have v1 := rgV_no hok
      have HI2 : Hid (∀ W, Eof W → Calls Tryd.prog 22 #[.string s] W fun e w' => e = .returned (.tuple #[.agg #[.int .i64 0, .int .i64 0, .int .i64 0, .int .i64 0, .int .i64 0, .string ⟨#[]⟩], .bool false]) ∧ Below W.heap.size W w') := fun W he => by have := implRepGet_any s W (by omega) he; rw [v1, hok] at this; exact this
      have HS2 : Hid (∀ W, Calls Tryd.prog 21 #[.string s] W fun e w' => e = .returned (.tuple #[.agg #[.int .i64 0, .int .i64 0, .int .i64 0, .int .i64 0, .int .i64 0, .string ⟨#[]⟩], .bool false]) ∧ Below W.heap.size W w') := fun W => by have := specRepGet_any s W (by omega); rw [v1, hok] at this; exact this
      clear v1 hok
      go_wp2_with fail
      refine Calls.mono (HI2.out _ HE.out) ?_
      rintro e w5 ⟨rfl, hb⟩
      replace F : Hid (w5.heap[w1.heap.size]? = some (.cells #[.int .i64 a, .int .i64 c, .int .i64 sv, .int .i64 sb, .int .i64 tm, .string d] 35)) := get_below hb F.out (size_of_get F.out)
      replace HB : Hid (Below w.heap.size w w5) := HB.out.trans (hb.mono HB.out.size)
      replace HE : Hid (Eof w5) := HE.out.below hb
      replace R0 : Hid (IsRow .u8 w5 a0 l0 c0 z0) := IsRow.keep R0.out hb
      replace R1 : Hid (IsRow .u8 w5 a1 l1 c1 z1) := IsRow.keep R1.out hb
      clear hb
      replace F : Hid ((w5.alloc (.cells #[.int .i64 0, .int .i64 0, .int .i64 0, .int .i64 0, .int .i64 0, .string ⟨#[]⟩] 35)).heap[w1.heap.size]? = some (.cells #[.int .i64 a, .int .i64 c, .int .i64 sv, .int .i64 sb, .int .i64 tm, .string d] 35)) := get_alloc F.out (size_of_get F.out)
      have Y : Hid ((w5.alloc (.cells #[.int .i64 0, .int .i64 0, .int .i64 0, .int .i64 0, .int .i64 0, .string ⟨#[]⟩] 35)).heap[w5.heap.size]? = some (.cells #[.int .i64 0, .int .i64 0, .int .i64 0, .int .i64 0, .int .i64 0, .string ⟨#[]⟩] 35)) := get_new rfl
      replace HB : Hid (Below w.heap.size w (w5.alloc (.cells #[.int .i64 0, .int .i64 0, .int .i64 0, .int .i64 0, .int .i64 0, .string ⟨#[]⟩] 35))) := HB.out.alloc HB.out.size _
      replace HE : Hid (Eof (w5.alloc (.cells #[.int .i64 0, .int .i64 0, .int .i64 0, .int .i64 0, .int .i64 0, .string ⟨#[]⟩] 35))) := HE.out.below ((Below.refl _ _).alloc (Nat.le_refl _) _)
      replace R0 : Hid (IsRow .u8 (w5.alloc (.cells #[.int .i64 0, .int .i64 0, .int .i64 0, .int .i64 0, .int .i64 0, .string ⟨#[]⟩] 35)) a0 l0 c0 z0) := IsRow.keep R0.out ((Below.refl _ _).alloc (Nat.le_refl _) _)
      replace R1 : Hid (IsRow .u8 (w5.alloc (.cells #[.int .i64 0, .int .i64 0, .int .i64 0, .int .i64 0, .int .i64 0, .string ⟨#[]⟩] 35)) a1 l1 c1 z1) := IsRow.keep R1.out ((Below.refl _ _).alloc (Nat.le_refl _) _)
      go_wp2_with fail
      refine Calls.mono (HS2.out _) ?_
      rintro e w6 ⟨rfl, hb⟩
      replace F : Hid (w6.heap[w1.heap.size]? = some (.cells #[.int .i64 a, .int .i64 c, .int .i64 sv, .int .i64 sb, .int .i64 tm, .string d] 35)) := get_below hb F.out (size_of_get F.out)
      replace Y : Hid (w6.heap[w5.heap.size]? = some (.cells #[.int .i64 0, .int .i64 0, .int .i64 0, .int .i64 0, .int .i64 0, .string ⟨#[]⟩] 35)) := get_below hb Y.out (size_of_get Y.out)
      replace HB : Hid (Below w.heap.size w w6) := HB.out.trans (hb.mono HB.out.size)
      replace HE : Hid (Eof w6) := HE.out.below hb
      replace R0 : Hid (IsRow .u8 w6 a0 l0 c0 z0) := IsRow.keep R0.out hb
      replace R1 : Hid (IsRow .u8 w6 a1 l1 c1 z1) := IsRow.keep R1.out hb
      clear hb
      replace F : Hid ((w6.alloc (.cells #[.int .i64 0, .int .i64 0, .int .i64 0, .int .i64 0, .int .i64 0, .string ⟨#[]⟩] 35)).heap[w1.heap.size]? = some (.cells #[.int .i64 a, .int .i64 c, .int .i64 sv, .int .i64 sb, .int .i64 tm, .string d] 35)) := get_alloc F.out (size_of_get F.out)
      replace Y : Hid ((w6.alloc (.cells #[.int .i64 0, .int .i64 0, .int .i64 0, .int .i64 0, .int .i64 0, .string ⟨#[]⟩] 35)).heap[w5.heap.size]? = some (.cells #[.int .i64 0, .int .i64 0, .int .i64 0, .int .i64 0, .int .i64 0, .string ⟨#[]⟩] 35)) := get_alloc Y.out (size_of_get Y.out)
      have Z : Hid ((w6.alloc (.cells #[.int .i64 0, .int .i64 0, .int .i64 0, .int .i64 0, .int .i64 0, .string ⟨#[]⟩] 35)).heap[w6.heap.size]? = some (.cells #[.int .i64 0, .int .i64 0, .int .i64 0, .int .i64 0, .int .i64 0, .string ⟨#[]⟩] 35)) := get_new rfl
      replace HB : Hid (Below w.heap.size w (w6.alloc (.cells #[.int .i64 0, .int .i64 0, .int .i64 0, .int .i64 0, .int .i64 0, .string ⟨#[]⟩] 35))) := HB.out.alloc HB.out.size _
      replace HE : Hid (Eof (w6.alloc (.cells #[.int .i64 0, .int .i64 0, .int .i64 0, .int .i64 0, .int .i64 0, .string ⟨#[]⟩] 35))) := HE.out.below ((Below.refl _ _).alloc (Nat.le_refl _) _)
      replace R0 : Hid (IsRow .u8 (w6.alloc (.cells #[.int .i64 0, .int .i64 0, .int .i64 0, .int .i64 0, .int .i64 0, .string ⟨#[]⟩] 35)) a0 l0 c0 z0) := IsRow.keep R0.out ((Below.refl _ _).alloc (Nat.le_refl _) _)
      replace R1 : Hid (IsRow .u8 (w6.alloc (.cells #[.int .i64 0, .int .i64 0, .int .i64 0, .int .i64 0, .int .i64 0, .string ⟨#[]⟩] 35)) a1 l1 c1 z1) := IsRow.keep R1.out ((Below.refl _ _).alloc (Nat.le_refl _) _)
      clear HI2 HS2
      obtain ⟨Y_0, Y_1, Y_2, Y_3, Y_4, Y_5⟩ := cells6_of Y.out
      obtain ⟨Z_0, Z_1, Z_2, Z_3, Z_4, Z_5⟩ := cells6_of Z.out
      go_wp2_with fail
      clear Y_0 Y_1 Y_2 Y_3 Y_4 Y_5
      clear Z_0 Z_1 Z_2 Z_3 Z_4 Z_5
      go_ret
      exact ⟨rfl, HB.out⟩
    | true =>
      have hput := rg_forth hok
      unfold rgPut at hput
      have v1 : rgV s = .agg #[.int .i64 (pgA s), .int .i64 (pgC s), .int .i64 (byteAt (pgD s) 1 : Nat), .int .i64 (byteAt (pgD s) 2 : Nat), .int .i64 (gt (pgD s) 3 4 : Nat), .string ((pgD s).extract 7 (pgD s).size)] := by unfold rgV; rw [if_pos hok]
      have hd2 : ((pgD s).extract 7 (pgD s).size).size ≤ maxLen := by rw [ByteArray.size_extract]; unfold pgD maxLen; rw [ByteArray.size_extract]; omega
      generalize pgA s = a2 at *
      generalize pgC s = c2 at *
      generalize ((byteAt (pgD s) 1 : Nat) : Int) = sv2 at *
      generalize ((byteAt (pgD s) 2 : Nat) : Int) = sb2 at *
      generalize ((gt (pgD s) 3 4 : Nat) : Int) = tm2 at *
      generalize (pgD s).extract 7 (pgD s).size = d2 at *
      have HPP : Hid (∀ W, Calls Tryd.prog 33 #[.agg #[.int .i64 a2, .int .i64 c2, .int .i64 sv2, .int .i64 sb2, .int .i64 tm2, .string d2]] W fun e w' => e = .returned (.string s) ∧ Below W.heap.size W w') := fun W => by have := implRepPut_any a2 c2 sv2 sb2 tm2 d2 W hd2; rw [hput] at this; exact this
      have HI2 : Hid (∀ W, Eof W → Calls Tryd.prog 22 #[.string s] W fun e w' => e = .returned (.tuple #[.agg #[.int .i64 a2, .int .i64 c2, .int .i64 sv2, .int .i64 sb2, .int .i64 tm2, .string d2], .bool true]) ∧ Below W.heap.size W w') := fun W he => by have := implRepGet_any s W (by omega) he; rw [v1, hok] at this; exact this
      have HS2 : Hid (∀ W, Calls Tryd.prog 21 #[.string s] W fun e w' => e = .returned (.tuple #[.agg #[.int .i64 a2, .int .i64 c2, .int .i64 sv2, .int .i64 sb2, .int .i64 tm2, .string d2], .bool true]) ∧ Below W.heap.size W w') := fun W => by have := specRepGet_any s W (by omega); rw [v1, hok] at this; exact this
      clear hput hd2
      have hxx : (s.toList == s.toList) = true := by simp
      clear v1 hok
      go_wp2_with fail
      refine Calls.mono (HI2.out _ HE.out) ?_
      rintro e w5 ⟨rfl, hb⟩
      replace F : Hid (w5.heap[w1.heap.size]? = some (.cells #[.int .i64 a, .int .i64 c, .int .i64 sv, .int .i64 sb, .int .i64 tm, .string d] 35)) := get_below hb F.out (size_of_get F.out)
      replace HB : Hid (Below w.heap.size w w5) := HB.out.trans (hb.mono HB.out.size)
      replace HE : Hid (Eof w5) := HE.out.below hb
      replace R0 : Hid (IsRow .u8 w5 a0 l0 c0 z0) := IsRow.keep R0.out hb
      replace R1 : Hid (IsRow .u8 w5 a1 l1 c1 z1) := IsRow.keep R1.out hb
      clear hb
      replace F : Hid ((w5.alloc (.cells #[.int .i64 a2, .int .i64 c2, .int .i64 sv2, .int .i64 sb2, .int .i64 tm2, .string d2] 35)).heap[w1.heap.size]? = some (.cells #[.int .i64 a, .int .i64 c, .int .i64 sv, .int .i64 sb, .int .i64 tm, .string d] 35)) := get_alloc F.out (size_of_get F.out)
      have Y : Hid ((w5.alloc (.cells #[.int .i64 a2, .int .i64 c2, .int .i64 sv2, .int .i64 sb2, .int .i64 tm2, .string d2] 35)).heap[w5.heap.size]? = some (.cells #[.int .i64 a2, .int .i64 c2, .int .i64 sv2, .int .i64 sb2, .int .i64 tm2, .string d2] 35)) := get_new rfl
      replace HB : Hid (Below w.heap.size w (w5.alloc (.cells #[.int .i64 a2, .int .i64 c2, .int .i64 sv2, .int .i64 sb2, .int .i64 tm2, .string d2] 35))) := HB.out.alloc HB.out.size _
      replace HE : Hid (Eof (w5.alloc (.cells #[.int .i64 a2, .int .i64 c2, .int .i64 sv2, .int .i64 sb2, .int .i64 tm2, .string d2] 35))) := HE.out.below ((Below.refl _ _).alloc (Nat.le_refl _) _)
      replace R0 : Hid (IsRow .u8 (w5.alloc (.cells #[.int .i64 a2, .int .i64 c2, .int .i64 sv2, .int .i64 sb2, .int .i64 tm2, .string d2] 35)) a0 l0 c0 z0) := IsRow.keep R0.out ((Below.refl _ _).alloc (Nat.le_refl _) _)
      replace R1 : Hid (IsRow .u8 (w5.alloc (.cells #[.int .i64 a2, .int .i64 c2, .int .i64 sv2, .int .i64 sb2, .int .i64 tm2, .string d2] 35)) a1 l1 c1 z1) := IsRow.keep R1.out ((Below.refl _ _).alloc (Nat.le_refl _) _)
      go_wp2_with fail
      refine Calls.mono (HS2.out _) ?_
      rintro e w6 ⟨rfl, hb⟩
      replace F : Hid (w6.heap[w1.heap.size]? = some (.cells #[.int .i64 a, .int .i64 c, .int .i64 sv, .int .i64 sb, .int .i64 tm, .string d] 35)) := get_below hb F.out (size_of_get F.out)
      replace Y : Hid (w6.heap[w5.heap.size]? = some (.cells #[.int .i64 a2, .int .i64 c2, .int .i64 sv2, .int .i64 sb2, .int .i64 tm2, .string d2] 35)) := get_below hb Y.out (size_of_get Y.out)
      replace HB : Hid (Below w.heap.size w w6) := HB.out.trans (hb.mono HB.out.size)
      replace HE : Hid (Eof w6) := HE.out.below hb
      replace R0 : Hid (IsRow .u8 w6 a0 l0 c0 z0) := IsRow.keep R0.out hb
      replace R1 : Hid (IsRow .u8 w6 a1 l1 c1 z1) := IsRow.keep R1.out hb
      clear hb
      replace F : Hid ((w6.alloc (.cells #[.int .i64 a2, .int .i64 c2, .int .i64 sv2, .int .i64 sb2, .int .i64 tm2, .string d2] 35)).heap[w1.heap.size]? = some (.cells #[.int .i64 a, .int .i64 c, .int .i64 sv, .int .i64 sb, .int .i64 tm, .string d] 35)) := get_alloc F.out (size_of_get F.out)
      replace Y : Hid ((w6.alloc (.cells #[.int .i64 a2, .int .i64 c2, .int .i64 sv2, .int .i64 sb2, .int .i64 tm2, .string d2] 35)).heap[w5.heap.size]? = some (.cells #[.int .i64 a2, .int .i64 c2, .int .i64 sv2, .int .i64 sb2, .int .i64 tm2, .string d2] 35)) := get_alloc Y.out (size_of_get Y.out)
      have Z : Hid ((w6.alloc (.cells #[.int .i64 a2, .int .i64 c2, .int .i64 sv2, .int .i64 sb2, .int .i64 tm2, .string d2] 35)).heap[w6.heap.size]? = some (.cells #[.int .i64 a2, .int .i64 c2, .int .i64 sv2, .int .i64 sb2, .int .i64 tm2, .string d2] 35)) := get_new rfl
      replace HB : Hid (Below w.heap.size w (w6.alloc (.cells #[.int .i64 a2, .int .i64 c2, .int .i64 sv2, .int .i64 sb2, .int .i64 tm2, .string d2] 35))) := HB.out.alloc HB.out.size _
      replace HE : Hid (Eof (w6.alloc (.cells #[.int .i64 a2, .int .i64 c2, .int .i64 sv2, .int .i64 sb2, .int .i64 tm2, .string d2] 35))) := HE.out.below ((Below.refl _ _).alloc (Nat.le_refl _) _)
      replace R0 : Hid (IsRow .u8 (w6.alloc (.cells #[.int .i64 a2, .int .i64 c2, .int .i64 sv2, .int .i64 sb2, .int .i64 tm2, .string d2] 35)) a0 l0 c0 z0) := IsRow.keep R0.out ((Below.refl _ _).alloc (Nat.le_refl _) _)
      replace R1 : Hid (IsRow .u8 (w6.alloc (.cells #[.int .i64 a2, .int .i64 c2, .int .i64 sv2, .int .i64 sb2, .int .i64 tm2, .string d2] 35)) a1 l1 c1 z1) := IsRow.keep R1.out ((Below.refl _ _).alloc (Nat.le_refl _) _)
      clear HI2 HS2
      obtain ⟨Y_0, Y_1, Y_2, Y_3, Y_4, Y_5⟩ := cells6_of Y.out
      obtain ⟨Z_0, Z_1, Z_2, Z_3, Z_4, Z_5⟩ := cells6_of Z.out
      go_wp2_with fail
      clear Y_0 Y_1 Y_2 Y_3 Y_4 Y_5
      clear Z_0 Z_1 Z_2 Z_3 Z_4 Z_5
      refine Calls.mono (HPP.out _) ?_
      rintro e w7 ⟨rfl, hb⟩
      replace F : Hid (w7.heap[w1.heap.size]? = some (.cells #[.int .i64 a, .int .i64 c, .int .i64 sv, .int .i64 sb, .int .i64 tm, .string d] 35)) := get_below hb F.out (size_of_get F.out)
      replace Y : Hid (w7.heap[w5.heap.size]? = some (.cells #[.int .i64 a2, .int .i64 c2, .int .i64 sv2, .int .i64 sb2, .int .i64 tm2, .string d2] 35)) := get_below hb Y.out (size_of_get Y.out)
      replace Z : Hid (w7.heap[w6.heap.size]? = some (.cells #[.int .i64 a2, .int .i64 c2, .int .i64 sv2, .int .i64 sb2, .int .i64 tm2, .string d2] 35)) := get_below hb Z.out (size_of_get Z.out)
      replace HB : Hid (Below w.heap.size w w7) := HB.out.trans (hb.mono HB.out.size)
      replace HE : Hid (Eof w7) := HE.out.below hb
      replace R0 : Hid (IsRow .u8 w7 a0 l0 c0 z0) := IsRow.keep R0.out hb
      replace R1 : Hid (IsRow .u8 w7 a1 l1 c1 z1) := IsRow.keep R1.out hb
      clear hb
      go_wp2_with fail
      go_ret
      exact ⟨rfl, HB.out⟩
  | true =>
    obtain ⟨g1, g2, g3, g4, g5, g6⟩ := rg_back hb (S := rpPut a c sv sb tm d) rfl
    obtain ⟨g7, g8⟩ := cg_down g4
    have hlen := (rp_len (t := rpPut a c sv sb tm d) rfl (pgOk_all g3).1)
    have hsz : (rpPut a c sv sb tm d).size ≤ 1048576 := by omega
    have HG1 : Hid (∀ W, Eof W → Calls Tryd.prog 22 #[.string (rpPut a c sv sb tm d)] W fun e w' => e = .returned (.tuple #[.agg #[.int .i64 a, .int .i64 c, .int .i64 sv, .int .i64 sb, .int .i64 tm, .string d], .bool true]) ∧ Below W.heap.size W w') := fun W he => by have := implRepGet_any (rpPut a c sv sb tm d) W hsz he; rw [g1, g2] at this; exact this
    have HG2 : Hid (∀ W, Eof W → Calls Tryd.prog 19 #[.string (rpPut a c sv sb tm d)] W fun e w' => e = .returned (.tuple #[.agg #[.int .i64 0, .int .i64 0, .int .i64 0, .int .i64 0, .int .i64 0, .string ⟨#[]⟩], .int .i64 1]) ∧ Below W.heap.size W w') := fun W he => by have := implCmdGet_any (rpPut a c sv sb tm d) W hsz he; rw [g7, g8] at this; exact this
    clear g1 g2 g3 g4 g5 g7 g8 hlen hsz hb
    generalize rpPut a c sv sb tm d = t at *
    have hteq : (t.toList == t.toList) = true := by simp
    have hne : t.toList.isEmpty = false := ne_empty g6
    obtain ⟨F_0, F_1, F_2, F_3, F_4, F_5⟩ := cells6_of F.out
    go_wp2_with fail
    clear F_0 F_1 F_2 F_3 F_4 F_5
    refine Calls.mono (HSP.out _) ?_
    rintro e w3 ⟨rfl, hb⟩
    replace F : Hid (w3.heap[w1.heap.size]? = some (.cells #[.int .i64 a, .int .i64 c, .int .i64 sv, .int .i64 sb, .int .i64 tm, .string d] 35)) := get_below hb F.out (size_of_get F.out)
    replace HB : Hid (Below w.heap.size w w3) := HB.out.trans (hb.mono HB.out.size)
    replace HE : Hid (Eof w3) := HE.out.below hb
    replace R0 : Hid (IsRow .u8 w3 a0 l0 c0 z0) := IsRow.keep R0.out hb
    replace R1 : Hid (IsRow .u8 w3 a1 l1 c1 z1) := IsRow.keep R1.out hb
    clear hb
    clear HSP
    go_wp2_with fail
    refine Calls.mono (HG1.out _ HE.out) ?_
    rintro e w4 ⟨rfl, hb⟩
    replace F : Hid (w4.heap[w1.heap.size]? = some (.cells #[.int .i64 a, .int .i64 c, .int .i64 sv, .int .i64 sb, .int .i64 tm, .string d] 35)) := get_below hb F.out (size_of_get F.out)
    replace HB : Hid (Below w.heap.size w w4) := HB.out.trans (hb.mono HB.out.size)
    replace HE : Hid (Eof w4) := HE.out.below hb
    replace R0 : Hid (IsRow .u8 w4 a0 l0 c0 z0) := IsRow.keep R0.out hb
    replace R1 : Hid (IsRow .u8 w4 a1 l1 c1 z1) := IsRow.keep R1.out hb
    clear hb
    replace F : Hid ((w4.alloc (.cells #[.int .i64 a, .int .i64 c, .int .i64 sv, .int .i64 sb, .int .i64 tm, .string d] 35)).heap[w1.heap.size]? = some (.cells #[.int .i64 a, .int .i64 c, .int .i64 sv, .int .i64 sb, .int .i64 tm, .string d] 35)) := get_alloc F.out (size_of_get F.out)
    have X : Hid ((w4.alloc (.cells #[.int .i64 a, .int .i64 c, .int .i64 sv, .int .i64 sb, .int .i64 tm, .string d] 35)).heap[w4.heap.size]? = some (.cells #[.int .i64 a, .int .i64 c, .int .i64 sv, .int .i64 sb, .int .i64 tm, .string d] 35)) := get_new rfl
    replace HB : Hid (Below w.heap.size w (w4.alloc (.cells #[.int .i64 a, .int .i64 c, .int .i64 sv, .int .i64 sb, .int .i64 tm, .string d] 35))) := HB.out.alloc HB.out.size _
    replace HE : Hid (Eof (w4.alloc (.cells #[.int .i64 a, .int .i64 c, .int .i64 sv, .int .i64 sb, .int .i64 tm, .string d] 35))) := HE.out.below ((Below.refl _ _).alloc (Nat.le_refl _) _)
    replace R0 : Hid (IsRow .u8 (w4.alloc (.cells #[.int .i64 a, .int .i64 c, .int .i64 sv, .int .i64 sb, .int .i64 tm, .string d] 35)) a0 l0 c0 z0) := IsRow.keep R0.out ((Below.refl _ _).alloc (Nat.le_refl _) _)
    replace R1 : Hid (IsRow .u8 (w4.alloc (.cells #[.int .i64 a, .int .i64 c, .int .i64 sv, .int .i64 sb, .int .i64 tm, .string d] 35)) a1 l1 c1 z1) := IsRow.keep R1.out ((Below.refl _ _).alloc (Nat.le_refl _) _)
    go_wp2_with fail
    refine Calls.mono (HG2.out _ HE.out) ?_
    rintro e w5 ⟨rfl, hb⟩
    replace F : Hid (w5.heap[w1.heap.size]? = some (.cells #[.int .i64 a, .int .i64 c, .int .i64 sv, .int .i64 sb, .int .i64 tm, .string d] 35)) := get_below hb F.out (size_of_get F.out)
    replace X : Hid (w5.heap[w4.heap.size]? = some (.cells #[.int .i64 a, .int .i64 c, .int .i64 sv, .int .i64 sb, .int .i64 tm, .string d] 35)) := get_below hb X.out (size_of_get X.out)
    replace HB : Hid (Below w.heap.size w w5) := HB.out.trans (hb.mono HB.out.size)
    replace HE : Hid (Eof w5) := HE.out.below hb
    replace R0 : Hid (IsRow .u8 w5 a0 l0 c0 z0) := IsRow.keep R0.out hb
    replace R1 : Hid (IsRow .u8 w5 a1 l1 c1 z1) := IsRow.keep R1.out hb
    clear hb
    replace F : Hid ((w5.alloc (.cells #[.int .i64 0, .int .i64 0, .int .i64 0, .int .i64 0, .int .i64 0, .string ⟨#[]⟩] 29)).heap[w1.heap.size]? = some (.cells #[.int .i64 a, .int .i64 c, .int .i64 sv, .int .i64 sb, .int .i64 tm, .string d] 35)) := get_alloc F.out (size_of_get F.out)
    replace X : Hid ((w5.alloc (.cells #[.int .i64 0, .int .i64 0, .int .i64 0, .int .i64 0, .int .i64 0, .string ⟨#[]⟩] 29)).heap[w4.heap.size]? = some (.cells #[.int .i64 a, .int .i64 c, .int .i64 sv, .int .i64 sb, .int .i64 tm, .string d] 35)) := get_alloc X.out (size_of_get X.out)
    have XC : Hid ((w5.alloc (.cells #[.int .i64 0, .int .i64 0, .int .i64 0, .int .i64 0, .int .i64 0, .string ⟨#[]⟩] 29)).heap[w5.heap.size]? = some (.cells #[.int .i64 0, .int .i64 0, .int .i64 0, .int .i64 0, .int .i64 0, .string ⟨#[]⟩] 29)) := get_new rfl
    replace HB : Hid (Below w.heap.size w (w5.alloc (.cells #[.int .i64 0, .int .i64 0, .int .i64 0, .int .i64 0, .int .i64 0, .string ⟨#[]⟩] 29))) := HB.out.alloc HB.out.size _
    replace HE : Hid (Eof (w5.alloc (.cells #[.int .i64 0, .int .i64 0, .int .i64 0, .int .i64 0, .int .i64 0, .string ⟨#[]⟩] 29))) := HE.out.below ((Below.refl _ _).alloc (Nat.le_refl _) _)
    replace R0 : Hid (IsRow .u8 (w5.alloc (.cells #[.int .i64 0, .int .i64 0, .int .i64 0, .int .i64 0, .int .i64 0, .string ⟨#[]⟩] 29)) a0 l0 c0 z0) := IsRow.keep R0.out ((Below.refl _ _).alloc (Nat.le_refl _) _)
    replace R1 : Hid (IsRow .u8 (w5.alloc (.cells #[.int .i64 0, .int .i64 0, .int .i64 0, .int .i64 0, .int .i64 0, .string ⟨#[]⟩] 29)) a1 l1 c1 z1) := IsRow.keep R1.out ((Below.refl _ _).alloc (Nat.le_refl _) _)
    obtain ⟨F_0, F_1, F_2, F_3, F_4, F_5⟩ := cells6_of F.out
    obtain ⟨X_0, X_1, X_2, X_3, X_4, X_5⟩ := cells6_of X.out
    go_wp2_with fail
    clear F_0 F_1 F_2 F_3 F_4 F_5
    clear X_0 X_1 X_2 X_3 X_4 X_5
    clear HG1 HG2 hteq hne
    refine (DrawRepGet_any a1 l1 c1 z1 _ R1.out).mono ?_
    rintro e w6 ⟨s, hs, rfl, hb⟩
    replace F : Hid (w6.heap[w1.heap.size]? = some (.cells #[.int .i64 a, .int .i64 c, .int .i64 sv, .int .i64 sb, .int .i64 tm, .string d] 35)) := get_below hb F.out (size_of_get F.out)
    replace X : Hid (w6.heap[w4.heap.size]? = some (.cells #[.int .i64 a, .int .i64 c, .int .i64 sv, .int .i64 sb, .int .i64 tm, .string d] 35)) := get_below hb X.out (size_of_get X.out)
    replace XC : Hid (w6.heap[w5.heap.size]? = some (.cells #[.int .i64 0, .int .i64 0, .int .i64 0, .int .i64 0, .int .i64 0, .string ⟨#[]⟩] 29)) := get_below hb XC.out (size_of_get XC.out)
    replace HB : Hid (Below w.heap.size w w6) := HB.out.trans (hb.mono HB.out.size)
    replace HE : Hid (Eof w6) := HE.out.below hb
    replace R0 : Hid (IsRow .u8 w6 a0 l0 c0 z0) := IsRow.keep R0.out hb
    replace R1 : Hid (IsRow .u8 w6 a1 l1 c1 z1) := IsRow.keep R1.out hb
    clear hb
    cases hok : rgOk s with
    | false =>
      have v1 := rgV_no hok
      have HI2 : Hid (∀ W, Eof W → Calls Tryd.prog 22 #[.string s] W fun e w' => e = .returned (.tuple #[.agg #[.int .i64 0, .int .i64 0, .int .i64 0, .int .i64 0, .int .i64 0, .string ⟨#[]⟩], .bool false]) ∧ Below W.heap.size W w') := fun W he => by have := implRepGet_any s W (by omega) he; rw [v1, hok] at this; exact this
      have HS2 : Hid (∀ W, Calls Tryd.prog 21 #[.string s] W fun e w' => e = .returned (.tuple #[.agg #[.int .i64 0, .int .i64 0, .int .i64 0, .int .i64 0, .int .i64 0, .string ⟨#[]⟩], .bool false]) ∧ Below W.heap.size W w') := fun W => by have := specRepGet_any s W (by omega); rw [v1, hok] at this; exact this
      clear v1 hok
      go_wp2_with fail
      refine Calls.mono (HI2.out _ HE.out) ?_
      rintro e w7 ⟨rfl, hb⟩
      replace F : Hid (w7.heap[w1.heap.size]? = some (.cells #[.int .i64 a, .int .i64 c, .int .i64 sv, .int .i64 sb, .int .i64 tm, .string d] 35)) := get_below hb F.out (size_of_get F.out)
      replace X : Hid (w7.heap[w4.heap.size]? = some (.cells #[.int .i64 a, .int .i64 c, .int .i64 sv, .int .i64 sb, .int .i64 tm, .string d] 35)) := get_below hb X.out (size_of_get X.out)
      replace XC : Hid (w7.heap[w5.heap.size]? = some (.cells #[.int .i64 0, .int .i64 0, .int .i64 0, .int .i64 0, .int .i64 0, .string ⟨#[]⟩] 29)) := get_below hb XC.out (size_of_get XC.out)
      replace HB : Hid (Below w.heap.size w w7) := HB.out.trans (hb.mono HB.out.size)
      replace HE : Hid (Eof w7) := HE.out.below hb
      replace R0 : Hid (IsRow .u8 w7 a0 l0 c0 z0) := IsRow.keep R0.out hb
      replace R1 : Hid (IsRow .u8 w7 a1 l1 c1 z1) := IsRow.keep R1.out hb
      clear hb
      replace F : Hid ((w7.alloc (.cells #[.int .i64 0, .int .i64 0, .int .i64 0, .int .i64 0, .int .i64 0, .string ⟨#[]⟩] 35)).heap[w1.heap.size]? = some (.cells #[.int .i64 a, .int .i64 c, .int .i64 sv, .int .i64 sb, .int .i64 tm, .string d] 35)) := get_alloc F.out (size_of_get F.out)
      replace X : Hid ((w7.alloc (.cells #[.int .i64 0, .int .i64 0, .int .i64 0, .int .i64 0, .int .i64 0, .string ⟨#[]⟩] 35)).heap[w4.heap.size]? = some (.cells #[.int .i64 a, .int .i64 c, .int .i64 sv, .int .i64 sb, .int .i64 tm, .string d] 35)) := get_alloc X.out (size_of_get X.out)
      replace XC : Hid ((w7.alloc (.cells #[.int .i64 0, .int .i64 0, .int .i64 0, .int .i64 0, .int .i64 0, .string ⟨#[]⟩] 35)).heap[w5.heap.size]? = some (.cells #[.int .i64 0, .int .i64 0, .int .i64 0, .int .i64 0, .int .i64 0, .string ⟨#[]⟩] 29)) := get_alloc XC.out (size_of_get XC.out)
      have Y : Hid ((w7.alloc (.cells #[.int .i64 0, .int .i64 0, .int .i64 0, .int .i64 0, .int .i64 0, .string ⟨#[]⟩] 35)).heap[w7.heap.size]? = some (.cells #[.int .i64 0, .int .i64 0, .int .i64 0, .int .i64 0, .int .i64 0, .string ⟨#[]⟩] 35)) := get_new rfl
      replace HB : Hid (Below w.heap.size w (w7.alloc (.cells #[.int .i64 0, .int .i64 0, .int .i64 0, .int .i64 0, .int .i64 0, .string ⟨#[]⟩] 35))) := HB.out.alloc HB.out.size _
      replace HE : Hid (Eof (w7.alloc (.cells #[.int .i64 0, .int .i64 0, .int .i64 0, .int .i64 0, .int .i64 0, .string ⟨#[]⟩] 35))) := HE.out.below ((Below.refl _ _).alloc (Nat.le_refl _) _)
      replace R0 : Hid (IsRow .u8 (w7.alloc (.cells #[.int .i64 0, .int .i64 0, .int .i64 0, .int .i64 0, .int .i64 0, .string ⟨#[]⟩] 35)) a0 l0 c0 z0) := IsRow.keep R0.out ((Below.refl _ _).alloc (Nat.le_refl _) _)
      replace R1 : Hid (IsRow .u8 (w7.alloc (.cells #[.int .i64 0, .int .i64 0, .int .i64 0, .int .i64 0, .int .i64 0, .string ⟨#[]⟩] 35)) a1 l1 c1 z1) := IsRow.keep R1.out ((Below.refl _ _).alloc (Nat.le_refl _) _)
      go_wp2_with fail
      refine Calls.mono (HS2.out _) ?_
      rintro e w8 ⟨rfl, hb⟩
      replace F : Hid (w8.heap[w1.heap.size]? = some (.cells #[.int .i64 a, .int .i64 c, .int .i64 sv, .int .i64 sb, .int .i64 tm, .string d] 35)) := get_below hb F.out (size_of_get F.out)
      replace X : Hid (w8.heap[w4.heap.size]? = some (.cells #[.int .i64 a, .int .i64 c, .int .i64 sv, .int .i64 sb, .int .i64 tm, .string d] 35)) := get_below hb X.out (size_of_get X.out)
      replace XC : Hid (w8.heap[w5.heap.size]? = some (.cells #[.int .i64 0, .int .i64 0, .int .i64 0, .int .i64 0, .int .i64 0, .string ⟨#[]⟩] 29)) := get_below hb XC.out (size_of_get XC.out)
      replace Y : Hid (w8.heap[w7.heap.size]? = some (.cells #[.int .i64 0, .int .i64 0, .int .i64 0, .int .i64 0, .int .i64 0, .string ⟨#[]⟩] 35)) := get_below hb Y.out (size_of_get Y.out)
      replace HB : Hid (Below w.heap.size w w8) := HB.out.trans (hb.mono HB.out.size)
      replace HE : Hid (Eof w8) := HE.out.below hb
      replace R0 : Hid (IsRow .u8 w8 a0 l0 c0 z0) := IsRow.keep R0.out hb
      replace R1 : Hid (IsRow .u8 w8 a1 l1 c1 z1) := IsRow.keep R1.out hb
      clear hb
      replace F : Hid ((w8.alloc (.cells #[.int .i64 0, .int .i64 0, .int .i64 0, .int .i64 0, .int .i64 0, .string ⟨#[]⟩] 35)).heap[w1.heap.size]? = some (.cells #[.int .i64 a, .int .i64 c, .int .i64 sv, .int .i64 sb, .int .i64 tm, .string d] 35)) := get_alloc F.out (size_of_get F.out)
      replace X : Hid ((w8.alloc (.cells #[.int .i64 0, .int .i64 0, .int .i64 0, .int .i64 0, .int .i64 0, .string ⟨#[]⟩] 35)).heap[w4.heap.size]? = some (.cells #[.int .i64 a, .int .i64 c, .int .i64 sv, .int .i64 sb, .int .i64 tm, .string d] 35)) := get_alloc X.out (size_of_get X.out)
      replace XC : Hid ((w8.alloc (.cells #[.int .i64 0, .int .i64 0, .int .i64 0, .int .i64 0, .int .i64 0, .string ⟨#[]⟩] 35)).heap[w5.heap.size]? = some (.cells #[.int .i64 0, .int .i64 0, .int .i64 0, .int .i64 0, .int .i64 0, .string ⟨#[]⟩] 29)) := get_alloc XC.out (size_of_get XC.out)
      replace Y : Hid ((w8.alloc (.cells #[.int .i64 0, .int .i64 0, .int .i64 0, .int .i64 0, .int .i64 0, .string ⟨#[]⟩] 35)).heap[w7.heap.size]? = some (.cells #[.int .i64 0, .int .i64 0, .int .i64 0, .int .i64 0, .int .i64 0, .string ⟨#[]⟩] 35)) := get_alloc Y.out (size_of_get Y.out)
      have Z : Hid ((w8.alloc (.cells #[.int .i64 0, .int .i64 0, .int .i64 0, .int .i64 0, .int .i64 0, .string ⟨#[]⟩] 35)).heap[w8.heap.size]? = some (.cells #[.int .i64 0, .int .i64 0, .int .i64 0, .int .i64 0, .int .i64 0, .string ⟨#[]⟩] 35)) := get_new rfl
      replace HB : Hid (Below w.heap.size w (w8.alloc (.cells #[.int .i64 0, .int .i64 0, .int .i64 0, .int .i64 0, .int .i64 0, .string ⟨#[]⟩] 35))) := HB.out.alloc HB.out.size _
      replace HE : Hid (Eof (w8.alloc (.cells #[.int .i64 0, .int .i64 0, .int .i64 0, .int .i64 0, .int .i64 0, .string ⟨#[]⟩] 35))) := HE.out.below ((Below.refl _ _).alloc (Nat.le_refl _) _)
      replace R0 : Hid (IsRow .u8 (w8.alloc (.cells #[.int .i64 0, .int .i64 0, .int .i64 0, .int .i64 0, .int .i64 0, .string ⟨#[]⟩] 35)) a0 l0 c0 z0) := IsRow.keep R0.out ((Below.refl _ _).alloc (Nat.le_refl _) _)
      replace R1 : Hid (IsRow .u8 (w8.alloc (.cells #[.int .i64 0, .int .i64 0, .int .i64 0, .int .i64 0, .int .i64 0, .string ⟨#[]⟩] 35)) a1 l1 c1 z1) := IsRow.keep R1.out ((Below.refl _ _).alloc (Nat.le_refl _) _)
      clear HI2 HS2
      obtain ⟨Y_0, Y_1, Y_2, Y_3, Y_4, Y_5⟩ := cells6_of Y.out
      obtain ⟨Z_0, Z_1, Z_2, Z_3, Z_4, Z_5⟩ := cells6_of Z.out
      go_wp2_with fail
      clear Y_0 Y_1 Y_2 Y_3 Y_4 Y_5
      clear Z_0 Z_1 Z_2 Z_3 Z_4 Z_5
      go_ret
      exact ⟨rfl, HB.out⟩
    | true =>
      have hput := rg_forth hok
      unfold rgPut at hput
      have v1 : rgV s = .agg #[.int .i64 (pgA s), .int .i64 (pgC s), .int .i64 (byteAt (pgD s) 1 : Nat), .int .i64 (byteAt (pgD s) 2 : Nat), .int .i64 (gt (pgD s) 3 4 : Nat), .string ((pgD s).extract 7 (pgD s).size)] := by unfold rgV; rw [if_pos hok]
      have hd2 : ((pgD s).extract 7 (pgD s).size).size ≤ maxLen := by rw [ByteArray.size_extract]; unfold pgD maxLen; rw [ByteArray.size_extract]; omega
      generalize pgA s = a2 at *
      generalize pgC s = c2 at *
      generalize ((byteAt (pgD s) 1 : Nat) : Int) = sv2 at *
      generalize ((byteAt (pgD s) 2 : Nat) : Int) = sb2 at *
      generalize ((gt (pgD s) 3 4 : Nat) : Int) = tm2 at *
      generalize (pgD s).extract 7 (pgD s).size = d2 at *
      have HPP : Hid (∀ W, Calls Tryd.prog 33 #[.agg #[.int .i64 a2, .int .i64 c2, .int .i64 sv2, .int .i64 sb2, .int .i64 tm2, .string d2]] W fun e w' => e = .returned (.string s) ∧ Below W.heap.size W w') := fun W => by have := implRepPut_any a2 c2 sv2 sb2 tm2 d2 W hd2; rw [hput] at this; exact this
      have HI2 : Hid (∀ W, Eof W → Calls Tryd.prog 22 #[.string s] W fun e w' => e = .returned (.tuple #[.agg #[.int .i64 a2, .int .i64 c2, .int .i64 sv2, .int .i64 sb2, .int .i64 tm2, .string d2], .bool true]) ∧ Below W.heap.size W w') := fun W he => by have := implRepGet_any s W (by omega) he; rw [v1, hok] at this; exact this
      have HS2 : Hid (∀ W, Calls Tryd.prog 21 #[.string s] W fun e w' => e = .returned (.tuple #[.agg #[.int .i64 a2, .int .i64 c2, .int .i64 sv2, .int .i64 sb2, .int .i64 tm2, .string d2], .bool true]) ∧ Below W.heap.size W w') := fun W => by have := specRepGet_any s W (by omega); rw [v1, hok] at this; exact this
      clear hput hd2
      have hxx : (s.toList == s.toList) = true := by simp
      clear v1 hok
      go_wp2_with fail
      refine Calls.mono (HI2.out _ HE.out) ?_
      rintro e w7 ⟨rfl, hb⟩
      replace F : Hid (w7.heap[w1.heap.size]? = some (.cells #[.int .i64 a, .int .i64 c, .int .i64 sv, .int .i64 sb, .int .i64 tm, .string d] 35)) := get_below hb F.out (size_of_get F.out)
      replace X : Hid (w7.heap[w4.heap.size]? = some (.cells #[.int .i64 a, .int .i64 c, .int .i64 sv, .int .i64 sb, .int .i64 tm, .string d] 35)) := get_below hb X.out (size_of_get X.out)
      replace XC : Hid (w7.heap[w5.heap.size]? = some (.cells #[.int .i64 0, .int .i64 0, .int .i64 0, .int .i64 0, .int .i64 0, .string ⟨#[]⟩] 29)) := get_below hb XC.out (size_of_get XC.out)
      replace HB : Hid (Below w.heap.size w w7) := HB.out.trans (hb.mono HB.out.size)
      replace HE : Hid (Eof w7) := HE.out.below hb
      replace R0 : Hid (IsRow .u8 w7 a0 l0 c0 z0) := IsRow.keep R0.out hb
      replace R1 : Hid (IsRow .u8 w7 a1 l1 c1 z1) := IsRow.keep R1.out hb
      clear hb
      replace F : Hid ((w7.alloc (.cells #[.int .i64 a2, .int .i64 c2, .int .i64 sv2, .int .i64 sb2, .int .i64 tm2, .string d2] 35)).heap[w1.heap.size]? = some (.cells #[.int .i64 a, .int .i64 c, .int .i64 sv, .int .i64 sb, .int .i64 tm, .string d] 35)) := get_alloc F.out (size_of_get F.out)
      replace X : Hid ((w7.alloc (.cells #[.int .i64 a2, .int .i64 c2, .int .i64 sv2, .int .i64 sb2, .int .i64 tm2, .string d2] 35)).heap[w4.heap.size]? = some (.cells #[.int .i64 a, .int .i64 c, .int .i64 sv, .int .i64 sb, .int .i64 tm, .string d] 35)) := get_alloc X.out (size_of_get X.out)
      replace XC : Hid ((w7.alloc (.cells #[.int .i64 a2, .int .i64 c2, .int .i64 sv2, .int .i64 sb2, .int .i64 tm2, .string d2] 35)).heap[w5.heap.size]? = some (.cells #[.int .i64 0, .int .i64 0, .int .i64 0, .int .i64 0, .int .i64 0, .string ⟨#[]⟩] 29)) := get_alloc XC.out (size_of_get XC.out)
      have Y : Hid ((w7.alloc (.cells #[.int .i64 a2, .int .i64 c2, .int .i64 sv2, .int .i64 sb2, .int .i64 tm2, .string d2] 35)).heap[w7.heap.size]? = some (.cells #[.int .i64 a2, .int .i64 c2, .int .i64 sv2, .int .i64 sb2, .int .i64 tm2, .string d2] 35)) := get_new rfl
      replace HB : Hid (Below w.heap.size w (w7.alloc (.cells #[.int .i64 a2, .int .i64 c2, .int .i64 sv2, .int .i64 sb2, .int .i64 tm2, .string d2] 35))) := HB.out.alloc HB.out.size _
      replace HE : Hid (Eof (w7.alloc (.cells #[.int .i64 a2, .int .i64 c2, .int .i64 sv2, .int .i64 sb2, .int .i64 tm2, .string d2] 35))) := HE.out.below ((Below.refl _ _).alloc (Nat.le_refl _) _)
      replace R0 : Hid (IsRow .u8 (w7.alloc (.cells #[.int .i64 a2, .int .i64 c2, .int .i64 sv2, .int .i64 sb2, .int .i64 tm2, .string d2] 35)) a0 l0 c0 z0) := IsRow.keep R0.out ((Below.refl _ _).alloc (Nat.le_refl _) _)
      replace R1 : Hid (IsRow .u8 (w7.alloc (.cells #[.int .i64 a2, .int .i64 c2, .int .i64 sv2, .int .i64 sb2, .int .i64 tm2, .string d2] 35)) a1 l1 c1 z1) := IsRow.keep R1.out ((Below.refl _ _).alloc (Nat.le_refl _) _)
      go_wp2_with fail
      refine Calls.mono (HS2.out _) ?_
      rintro e w8 ⟨rfl, hb⟩
      replace F : Hid (w8.heap[w1.heap.size]? = some (.cells #[.int .i64 a, .int .i64 c, .int .i64 sv, .int .i64 sb, .int .i64 tm, .string d] 35)) := get_below hb F.out (size_of_get F.out)
      replace X : Hid (w8.heap[w4.heap.size]? = some (.cells #[.int .i64 a, .int .i64 c, .int .i64 sv, .int .i64 sb, .int .i64 tm, .string d] 35)) := get_below hb X.out (size_of_get X.out)
      replace XC : Hid (w8.heap[w5.heap.size]? = some (.cells #[.int .i64 0, .int .i64 0, .int .i64 0, .int .i64 0, .int .i64 0, .string ⟨#[]⟩] 29)) := get_below hb XC.out (size_of_get XC.out)
      replace Y : Hid (w8.heap[w7.heap.size]? = some (.cells #[.int .i64 a2, .int .i64 c2, .int .i64 sv2, .int .i64 sb2, .int .i64 tm2, .string d2] 35)) := get_below hb Y.out (size_of_get Y.out)
      replace HB : Hid (Below w.heap.size w w8) := HB.out.trans (hb.mono HB.out.size)
      replace HE : Hid (Eof w8) := HE.out.below hb
      replace R0 : Hid (IsRow .u8 w8 a0 l0 c0 z0) := IsRow.keep R0.out hb
      replace R1 : Hid (IsRow .u8 w8 a1 l1 c1 z1) := IsRow.keep R1.out hb
      clear hb
      replace F : Hid ((w8.alloc (.cells #[.int .i64 a2, .int .i64 c2, .int .i64 sv2, .int .i64 sb2, .int .i64 tm2, .string d2] 35)).heap[w1.heap.size]? = some (.cells #[.int .i64 a, .int .i64 c, .int .i64 sv, .int .i64 sb, .int .i64 tm, .string d] 35)) := get_alloc F.out (size_of_get F.out)
      replace X : Hid ((w8.alloc (.cells #[.int .i64 a2, .int .i64 c2, .int .i64 sv2, .int .i64 sb2, .int .i64 tm2, .string d2] 35)).heap[w4.heap.size]? = some (.cells #[.int .i64 a, .int .i64 c, .int .i64 sv, .int .i64 sb, .int .i64 tm, .string d] 35)) := get_alloc X.out (size_of_get X.out)
      replace XC : Hid ((w8.alloc (.cells #[.int .i64 a2, .int .i64 c2, .int .i64 sv2, .int .i64 sb2, .int .i64 tm2, .string d2] 35)).heap[w5.heap.size]? = some (.cells #[.int .i64 0, .int .i64 0, .int .i64 0, .int .i64 0, .int .i64 0, .string ⟨#[]⟩] 29)) := get_alloc XC.out (size_of_get XC.out)
      replace Y : Hid ((w8.alloc (.cells #[.int .i64 a2, .int .i64 c2, .int .i64 sv2, .int .i64 sb2, .int .i64 tm2, .string d2] 35)).heap[w7.heap.size]? = some (.cells #[.int .i64 a2, .int .i64 c2, .int .i64 sv2, .int .i64 sb2, .int .i64 tm2, .string d2] 35)) := get_alloc Y.out (size_of_get Y.out)
      have Z : Hid ((w8.alloc (.cells #[.int .i64 a2, .int .i64 c2, .int .i64 sv2, .int .i64 sb2, .int .i64 tm2, .string d2] 35)).heap[w8.heap.size]? = some (.cells #[.int .i64 a2, .int .i64 c2, .int .i64 sv2, .int .i64 sb2, .int .i64 tm2, .string d2] 35)) := get_new rfl
      replace HB : Hid (Below w.heap.size w (w8.alloc (.cells #[.int .i64 a2, .int .i64 c2, .int .i64 sv2, .int .i64 sb2, .int .i64 tm2, .string d2] 35))) := HB.out.alloc HB.out.size _
      replace HE : Hid (Eof (w8.alloc (.cells #[.int .i64 a2, .int .i64 c2, .int .i64 sv2, .int .i64 sb2, .int .i64 tm2, .string d2] 35))) := HE.out.below ((Below.refl _ _).alloc (Nat.le_refl _) _)
      replace R0 : Hid (IsRow .u8 (w8.alloc (.cells #[.int .i64 a2, .int .i64 c2, .int .i64 sv2, .int .i64 sb2, .int .i64 tm2, .string d2] 35)) a0 l0 c0 z0) := IsRow.keep R0.out ((Below.refl _ _).alloc (Nat.le_refl _) _)
      replace R1 : Hid (IsRow .u8 (w8.alloc (.cells #[.int .i64 a2, .int .i64 c2, .int .i64 sv2, .int .i64 sb2, .int .i64 tm2, .string d2] 35)) a1 l1 c1 z1) := IsRow.keep R1.out ((Below.refl _ _).alloc (Nat.le_refl _) _)
      clear HI2 HS2
      obtain ⟨Y_0, Y_1, Y_2, Y_3, Y_4, Y_5⟩ := cells6_of Y.out
      obtain ⟨Z_0, Z_1, Z_2, Z_3, Z_4, Z_5⟩ := cells6_of Z.out
      go_wp2_with fail
      clear Y_0 Y_1 Y_2 Y_3 Y_4 Y_5
      clear Z_0 Z_1 Z_2 Z_3 Z_4 Z_5
      refine Calls.mono (HPP.out _) ?_
      rintro e w9 ⟨rfl, hb⟩
      replace F : Hid (w9.heap[w1.heap.size]? = some (.cells #[.int .i64 a, .int .i64 c, .int .i64 sv, .int .i64 sb, .int .i64 tm, .string d] 35)) := get_below hb F.out (size_of_get F.out)
      replace X : Hid (w9.heap[w4.heap.size]? = some (.cells #[.int .i64 a, .int .i64 c, .int .i64 sv, .int .i64 sb, .int .i64 tm, .string d] 35)) := get_below hb X.out (size_of_get X.out)
      replace XC : Hid (w9.heap[w5.heap.size]? = some (.cells #[.int .i64 0, .int .i64 0, .int .i64 0, .int .i64 0, .int .i64 0, .string ⟨#[]⟩] 29)) := get_below hb XC.out (size_of_get XC.out)
      replace Y : Hid (w9.heap[w7.heap.size]? = some (.cells #[.int .i64 a2, .int .i64 c2, .int .i64 sv2, .int .i64 sb2, .int .i64 tm2, .string d2] 35)) := get_below hb Y.out (size_of_get Y.out)
      replace Z : Hid (w9.heap[w8.heap.size]? = some (.cells #[.int .i64 a2, .int .i64 c2, .int .i64 sv2, .int .i64 sb2, .int .i64 tm2, .string d2] 35)) := get_below hb Z.out (size_of_get Z.out)
      replace HB : Hid (Below w.heap.size w w9) := HB.out.trans (hb.mono HB.out.size)
      replace HE : Hid (Eof w9) := HE.out.below hb
      replace R0 : Hid (IsRow .u8 w9 a0 l0 c0 z0) := IsRow.keep R0.out hb
      replace R1 : Hid (IsRow .u8 w9 a1 l1 c1 z1) := IsRow.keep R1.out hb
      clear hb
      go_wp2_with fail
      go_ret
      exact ⟨rfl, HB.out⟩
theorem FnRepBack_g0 : Tryd.prog.globalNamed "io.EOF" = some 1 := by kernel_rfl
theorem FnRepBack_t0 : (Tryd.prog.globals[1]?).map (·.type) = some 107 := by kernel_rfl
theorem FnRepBack_star : "*" ++ "errors.errorString" = "*errors.errorString" := by decide
theorem FnRepBack_rowP (u : TypeId) (h : Tryd.prog.typeName? 3 u = some "*errors.errorString") : u = 158 :=
  typeName_ptr_named (nm := "errors.errorString") (by rw [FnRepBack_star]; kernel_rfl) (by kernel_rfl) (by decide) u (by rw [FnRepBack_star]; exact h)
theorem FnRepBack_c1 : Tryd.prog.cellsOf 174 = 1 := by kernel_rfl
theorem FnRepBack_c2 : Tryd.prog.cellsOf 9 = 1 := by kernel_rfl
def FnRepBack_list : List (String × DataW Unit) := [("io.EOF", Rows.laid_io_EOF)]
theorem FnRepBack_met (os : Os) (args : Array Value) : laidMetH Tryd.prog FnRepBack_list ((World.doorLaid Tryd.prog 400 os).forCall (fun _ _ => 0) ⟨#[], args, []⟩).memory :=
  laidMetH_of_parts3 (fuel := 8) (laidMet_of_run' 8 (by kernel_rfl) (by kernel_rfl)) (by kernel_rfl) (by kernel_rfl)
theorem FnRepBack_var {W W' : World} {n : String} {cs : Array Value} (k : Below W.heap.size W W') (h : W.var? Tryd.prog n = some cs) : W'.var? Tryd.prog n = some cs := by
  unfold World.var? at h ⊢
  cases hg : Tryd.prog.globalNamed n with
  | none => simp [hg] at h
  | some g =>
    simp only [hg, Option.bind_some] at h ⊢
    have hlt : g < W.heap.size := by
      rcases Nat.lt_or_ge g W.heap.size with h' | h'
      · exact h'
      · simp [Array.getElem?_eq_none h'] at h
    rw [k.block g hlt]; exact h
theorem FnRepBack_of {W : World} (h : laidMetH Tryd.prog FnRepBack_list W) : ∃ x0 : Addr, W.var? Tryd.prog "io.EOF" = some #[.iface 158 (.pointer (some x0))] := by
  rw [MakeChecks.laidMetH_plain _ _ _ (by kernel_rfl)] at h
  obtain ⟨x0, _, v0, _⟩ := laid_sentinel h FnRepBack_g0 FnRepBack_t0 Tryd.underlying107 FnRepBack_rowP Tryd.underlying158 Tryd.underlying174 rfl rfl Tryd.underlying9 FnRepBack_c1 FnRepBack_c2
  exact ⟨x0, v0⟩
theorem FnRepBack_own : ownKnob Tryd.prog.godebug = none := by kernel_rfl
theorem FnRepBack_laidOut : laidOutB Tryd.prog = true := by kernel_rfl
set_option maxRecDepth 100000 in
theorem FnRepBack_lifted (os : Os) (started : os.Started) (H : Type) (enc : TypeId × Value → H) :
    ReturnsInHanded {} Tryd.checked os 9 .any (fun w args => (Rows.fnRepBackSpec.pre enc Tryd.prog Tryd.f9 [] false w args ∧ laidMetH Tryd.prog FnRepBack_list w) ∧ sizedMet enc Tryd.prog Tryd.f9 (OpenSpec.ofChange Rows.fnRepBackSpec) false w args) (Rows.fnRepBackSpec.post enc Tryd.prog Tryd.f9 false true false false) := by
  refine returnsInHanded_of_change_and (C := Tryd.checked) (X := fun w _ => laidMetH Tryd.prog FnRepBack_list w) (fun _ _ _ hh h => h.of_heap hh) FnRepBack_own started (by kernel_rfl) Tryd.func9
    (ChangeSpec.witness_shaped (enc := enc) (C := Tryd.checked) (os := os) (X := fun w _ => laidMetH Tryd.prog FnRepBack_list w) false (World.doorLaid Tryd.prog 400 os) #[.slice none 0 0, .slice none 0 0] 8 rfl (World.shaped_of_RefB (by kernel_rfl) (by kernel_rfl)) (by kernel_rfl) (by kernel_rfl) (by kernel_rfl) (FnRepBack_met os _)) ?_
  intro W base args ds gs before hval0 hW hcnd _ hL _
  have hval : ∀ (j : Nat) t v, Tryd.f9.params[j]? = some t → args[j]? = some v → Value.okWide Tryd.prog W .any base t v := hval0
  have hW' := hW
  obtain ⟨p, q, hA0, hV0, rfl, hfz, hnd⟩ := hW
  have hV : DataW.TrodVars enc Tryd.prog W (fun _ => true) [] gs q := hV0
  obtain ⟨x0, hv0⟩ := FnRepBack_of hL
  have hA : DataW.TrodAll enc Tryd.prog W 0 (fun _ => true) true Tryd.f9.params.toList args.toList ds p := hA0
  rw [Tryd.params9] at hA hval
  obtain ⟨v0, vs0, d0, ds0, p0, q0, hargs, rfl, rfl, h0, r0⟩ := trodAll_cons hA
  obtain ⟨v1, vs1, d1, ds1, p1, q1, rfl, rfl, rfl, h1, r1⟩ := trodAll_cons r0
  obtain ⟨rfl, rfl, rfl⟩ := trodAll_nil r1
  obtain rfl : args = #[v0, v1] := by cases args; simp_all
  obtain ⟨rfl, rfl⟩ := trodVars_none hV
  obtain ⟨a0, len0, cap0, rfl⟩ := okWide_slice Tryd.underlying39 (hval 0 39 v0 rfl rfl)
  have k0 := h0
  have lt0 : ∀ x ∈ p0, x.block < W.heap.size := by obtain ⟨m, hm⟩ := k0; exact DataW.trod_lt m _ _ _ hm
  obtain ⟨z0, w0⟩ : ∃ zs, IsRow .u8 W a0 len0 cap0 zs := by
    obtain ⟨fuel, hf⟩ := h0
    rcases open_ints Tryd.underlying39 Tryd.underlying5 (by kernel_rfl) hf with ⟨hcs, _⟩ | ⟨x, l, c, zs, hcs, _, hl, hm, hz, _, hcell, hwz⟩
    · simp [Value.cells] at hcs
      obtain ⟨rfl, rfl, rfl⟩ := hcs
      exact ⟨[], .inl ⟨rfl, rfl, rfl, rfl⟩⟩
    · simp [Value.cells] at hcs
      obtain ⟨rfl, rfl, rfl⟩ := hcs
      exact ⟨zs, .inr ⟨_, rfl, hl, hm, by simpa using hz, hcell, hwz⟩⟩
  obtain ⟨a1, len1, cap1, rfl⟩ := okWide_slice Tryd.underlying39 (hval 1 39 v1 rfl rfl)
  have k1 := h1
  have lt1 : ∀ x ∈ p1, x.block < W.heap.size := by obtain ⟨m, hm⟩ := k1; exact DataW.trod_lt m _ _ _ hm
  obtain ⟨z1, w1⟩ : ∃ zs, IsRow .u8 W a1 len1 cap1 zs := by
    obtain ⟨fuel, hf⟩ := h1
    rcases open_ints Tryd.underlying39 Tryd.underlying5 (by kernel_rfl) hf with ⟨hcs, _⟩ | ⟨x, l, c, zs, hcs, _, hl, hm, hz, _, hcell, hwz⟩
    · simp [Value.cells] at hcs
      obtain ⟨rfl, rfl, rfl⟩ := hcs
      exact ⟨[], .inl ⟨rfl, rfl, rfl, rfl⟩⟩
    · simp [Value.cells] at hcs
      obtain ⟨rfl, rfl, rfl⟩ := hcs
      exact ⟨zs, .inr ⟨_, rfl, hl, hm, by simpa using hz, hcell, hwz⟩⟩
  clear hA0 hval0 hV0
  refine (FnRepBack_walk a0 len0 cap0 z0 a1 len1 cap1 z1 W w0 w1 ⟨_, rfl, (by simpa using World.var?_cell FnRepBack_g0 hv0 0)⟩).mono fun e W' ⟨he, bel⟩ => ?_
  subst he
  exact ⟨_, rfl, _, _, _, [], _, _, hW', trodAll_mk1 (shut_bool Tryd.underlying4 _), (trodAll_cons_mk (Below.trod FnRepBack_laidOut (by kernel_rfl) (of_decide_eq_true (by kernel_rfl)) k0 bel lt0) (trodAll_cons_mk (Below.trod FnRepBack_laidOut (by kernel_rfl) (of_decide_eq_true (by kernel_rfl)) k1 bel lt1) trodAll_mk0)), rfl, bel.frame _, fun h => by cases h⟩
theorem FnRepBack_holds : Rows.FnRepBackSaid :=
  OpenClaim.holds_of_wide 9 Tryd.f9 rfl rfl rfl rfl rfl rfl rfl ⟨rfl, rfl, rfl, rfl, rfl⟩ rfl rfl rfl rfl rfl (by kernel_rfl) Tryd.func9 (by kernel_rfl)
    (of_decide_eq_true (by kernel_rfl)) (by unfold Func.isWrapper; first | (rw [if_pos (by decide +kernel)]; kernel_rfl) | (rw [if_neg (by decide +kernel)]; exact ⟨rfl, rfl⟩))
    (fun os started H enc _ => FnRepBack_lifted os started H enc)
theorem FnRepBack_card : Rows.FnRepBackCardSaid :=
  Claim7.holds_tied_plain_at .later [] [.sentinel] true (true, "d4916f3d9a9138b16cf3363f0ab1195dfe45625b95ab6948d0d5fdd4665c0b46") false
    FnRepBack_holds (fun _ h => by cases h) (by kernel_rfl) (fun _ h => by cases h) fnRepBack_row_tie rfl ⟨rfl, rfl⟩ (by kernel_rfl) rfl
    (fun f fn hf hfn => by
      obtain rfl : f = 9 := Option.some.inj ((show Tryd.prog.funcNamed "loop.example/skyway/laws.FnRepBack" = some 9 by kernel_rfl).symm.trans hf) |>.symm
      obtain rfl : fn = Tryd.f9 := (Option.some.inj (Tryd.func9.symm.trans hfn)).symm
      exact ⟨by kernel_rfl, fun j t ht => by
        rw [Tryd.params9] at ht
        have hm : t ∈ ([39, 39] : List TypeId) := by simpa using Array.mem_of_getElem? ht
        have hall : (([39, 39] : List TypeId).all fun u => !Tryd.prog.wantsStandIn u) = true := by kernel_rfl
        exact (show Tryd.prog.wantsStandIn t = false by simpa using List.all_eq_true.1 hall t hm)⟩)
    (by kernel_rfl)
#print axioms FnRepBack_card
end Go.Proofs.YtccpdadabndleaaDoor
