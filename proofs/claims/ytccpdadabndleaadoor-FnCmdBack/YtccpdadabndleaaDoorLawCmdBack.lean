/- Proved: laws.FnCmdBack returns true at every two slices of bytes (a command is read back), and leaves them as they were, as a tied card: io.EOF holds what the library's text lays in it. No other condition. -/
import Derived.Test.YtccpdadabndleaaDoorDpCm
import Derived.Test.YtccpdadabndleaaDoorCgU
import Derived.Test.YtccpdadabndleaaDoorCards
import Derived.Test.YtccpdadabndleaaDoorTie
import Derived.LaidMore
import Derived.Stop.LaidErr
import Derived.Stop.Joined
import Derived.Stop.ErrReads
import Derived.SevenTiedAt
import Derived.OpenShut
import Derived.ShutString
namespace Go.Proofs.YtccpdadabndleaaDoor
open Go.ChangeShapes Go.WideShapes Go.ChangeAt Go.RowKit
open Go.ChangeMaps (open_string shut_string)
set_option linter.unusedVariables false
set_option maxRecDepth 100000 in
set_option maxHeartbeats 4000000 in
theorem FnCmdBack_walk (a0 : Option Addr) (l0 c0 : Nat) (z0 : List Int) (a1 : Option Addr) (l1 c1 : Nat) (z1 : List Int) (w : World) (h0 : IsRow .u8 w a0 l0 c0 z0) (h1 : IsRow .u8 w a1 l1 c1 z1) (he : Eof w) :
    Calls Tryd.prog 7 #[.slice a0 l0 c0, .slice a1 l1 c1] w fun e w' => e = .returned (.bool true) ∧ Below w.heap.size w w' := by
  by_cases hb0 : 1048576 < (l0 : Int)
  · go_enter Tryd.func7, Tryd.ntmps7
    go_wp2_with fail
    go_ret
    exact ⟨rfl, Below.refl _ _⟩
  by_cases hb1 : 1048576 < (l1 : Int)
  · go_enter Tryd.func7, Tryd.ntmps7
    go_wp2_with fail
    go_ret
    exact ⟨rfl, Below.refl _ _⟩
  have R0 : Hid _ := h0
  have R1 : Hid _ := h1
  have HE : Hid (Eof w) := he
  have HB : Hid (Below w.heap.size w w) := Below.refl _ _
  clear h0 h1 he
  go_enter Tryd.func7, Tryd.ntmps7
  go_wp2_with fail
  refine (DrawCmdPut_any a0 l0 c0 z0 _ R0.out).mono ?_
  rintro e w1 ⟨a, c, so, sv, sb, d, hdz, rfl, hb⟩
  replace HB : Hid (Below w.heap.size w w1) := HB.out.trans (hb.mono HB.out.size)
  replace HE : Hid (Eof w1) := HE.out.below hb
  replace R0 : Hid (IsRow .u8 w1 a0 l0 c0 z0) := IsRow.keep R0.out hb
  replace R1 : Hid (IsRow .u8 w1 a1 l1 c1 z1) := IsRow.keep R1.out hb
  clear hb
  have hdm : d.size ≤ maxLen := by unfold maxLen; omega
  have F : Hid ((w1.alloc (.cells #[.int .i64 a, .int .i64 c, .int .i64 so, .int .i64 sv, .int .i64 sb, .string d] 29)).heap[w1.heap.size]? = some (.cells #[.int .i64 a, .int .i64 c, .int .i64 so, .int .i64 sv, .int .i64 sb, .string d] 29)) := get_new rfl
  replace HB : Hid (Below w.heap.size w (w1.alloc (.cells #[.int .i64 a, .int .i64 c, .int .i64 so, .int .i64 sv, .int .i64 sb, .string d] 29))) := HB.out.alloc HB.out.size _
  replace HE : Hid (Eof (w1.alloc (.cells #[.int .i64 a, .int .i64 c, .int .i64 so, .int .i64 sv, .int .i64 sb, .string d] 29))) := HE.out.below ((Below.refl _ _).alloc (Nat.le_refl _) _)
  replace R0 : Hid (IsRow .u8 (w1.alloc (.cells #[.int .i64 a, .int .i64 c, .int .i64 so, .int .i64 sv, .int .i64 sb, .string d] 29)) a0 l0 c0 z0) := IsRow.keep R0.out ((Below.refl _ _).alloc (Nat.le_refl _) _)
  replace R1 : Hid (IsRow .u8 (w1.alloc (.cells #[.int .i64 a, .int .i64 c, .int .i64 so, .int .i64 sv, .int .i64 sb, .string d] 29)) a1 l1 c1 z1) := IsRow.keep R1.out ((Below.refl _ _).alloc (Nat.le_refl _) _)
  go_wp2_with fail
  refine (implCmdPut_any a c so sv sb d _ hdm).mono ?_
  rintro e w2 ⟨rfl, hb⟩
  replace F : Hid (w2.heap[w1.heap.size]? = some (.cells #[.int .i64 a, .int .i64 c, .int .i64 so, .int .i64 sv, .int .i64 sb, .string d] 29)) := get_below hb F.out (size_of_get F.out)
  replace HB : Hid (Below w.heap.size w w2) := HB.out.trans (hb.mono HB.out.size)
  replace HE : Hid (Eof w2) := HE.out.below hb
  replace R0 : Hid (IsRow .u8 w2 a0 l0 c0 z0) := IsRow.keep R0.out hb
  replace R1 : Hid (IsRow .u8 w2 a1 l1 c1 z1) := IsRow.keep R1.out hb
  clear hb
  have HSP : Hid (∀ W, Calls Tryd.prog 30 #[.agg #[.int .i64 a, .int .i64 c, .int .i64 so, .int .i64 sv, .int .i64 sb, .string d]] W fun e w' => e = .returned (.string (cmPut a c so sv sb d)) ∧ Below W.heap.size W w') := fun W => specCmdPut_any a c so sv sb d W hdm
  cases hb : cmOk a c so sv sb d with
  | false =>
    rw [cm_empty hb] at HSP ⊢
    clear hb
    obtain ⟨F_0, F_1, F_2, F_3, F_4, F_5⟩ := cells6_of F.out
    go_wp2_with fail
    clear F_0 F_1 F_2 F_3 F_4 F_5
    refine Calls.mono (HSP.out _) ?_
    rintro e w3 ⟨rfl, hb⟩
    replace F : Hid (w3.heap[w1.heap.size]? = some (.cells #[.int .i64 a, .int .i64 c, .int .i64 so, .int .i64 sv, .int .i64 sb, .string d] 29)) := get_below hb F.out (size_of_get F.out)
    replace HB : Hid (Below w.heap.size w w3) := HB.out.trans (hb.mono HB.out.size)
    replace HE : Hid (Eof w3) := HE.out.below hb
    replace R0 : Hid (IsRow .u8 w3 a0 l0 c0 z0) := IsRow.keep R0.out hb
    replace R1 : Hid (IsRow .u8 w3 a1 l1 c1 z1) := IsRow.keep R1.out hb
    clear hb
    clear HSP
    go_wp2_with fail
    refine (DrawCmdGet_any a1 l1 c1 z1 _ R1.out).mono ?_
    rintro e w4 ⟨s, hs, rfl, hb⟩
    replace F : Hid (w4.heap[w1.heap.size]? = some (.cells #[.int .i64 a, .int .i64 c, .int .i64 so, .int .i64 sv, .int .i64 sb, .string d] 29)) := get_below hb F.out (size_of_get F.out)
    replace HB : Hid (Below w.heap.size w w4) := HB.out.trans (hb.mono HB.out.size)
    replace HE : Hid (Eof w4) := HE.out.below hb
    replace R0 : Hid (IsRow .u8 w4 a0 l0 c0 z0) := IsRow.keep R0.out hb
    replace R1 : Hid (IsRow .u8 w4 a1 l1 c1 z1) := IsRow.keep R1.out hb
    clear hb
    by_cases hok : cgK s = 0
    · have hput := cg_forth hok
      have v1 := cgV_yes hok
      have hK := hok
      have hd2 : ((pgD s).extract 4 ((pgD s).size - 2)).size ≤ maxLen := by rw [ByteArray.size_extract]; unfold pgD maxLen; rw [ByteArray.size_extract]; omega
      generalize pgA s = a2 at *
      generalize pgC s = c2 at *
      generalize ((byteAt (pgD s) 3 : Nat) : Int) = so2 at *
      generalize ((byteAt (pgD s) 1 : Nat) : Int) = sv2 at *
      generalize ((byteAt (pgD s) 2 : Nat) : Int) = sb2 at *
      generalize (pgD s).extract 4 ((pgD s).size - 2) = d2 at *
      have HPP : Hid (∀ W, Calls Tryd.prog 29 #[.agg #[.int .i64 a2, .int .i64 c2, .int .i64 so2, .int .i64 sv2, .int .i64 sb2, .string d2]] W fun e w' => e = .returned (.string s) ∧ Below W.heap.size W w') := fun W => by have := implCmdPut_any a2 c2 so2 sv2 sb2 d2 W hd2; rw [hput] at this; exact this
      have HI2 : Hid (∀ W, Eof W → Calls Tryd.prog 19 #[.string s] W fun e w' => e = .returned (.tuple #[.agg #[.int .i64 a2, .int .i64 c2, .int .i64 so2, .int .i64 sv2, .int .i64 sb2, .string d2], .int .i64 0]) ∧ Below W.heap.size W w') := fun W he => by have := implCmdGet_any s W (by omega) he; rw [v1, hK] at this; exact this
      have HS2 : Hid (∀ W, Calls Tryd.prog 18 #[.string s] W fun e w' => e = .returned (.tuple #[.agg #[.int .i64 a2, .int .i64 c2, .int .i64 so2, .int .i64 sv2, .int .i64 sb2, .string d2], .int .i64 0]) ∧ Below W.heap.size W w') := fun W => by have := specCmdGet_any s W (by omega); rw [v1, hK] at this; exact this
      clear hput hd2
      have hxx : (s.toList == s.toList) = true := by simp
      clear v1 hok hK
      go_wp2_with fail
      refine Calls.mono (HI2.out _ HE.out) ?_
      rintro e w5 ⟨rfl, hb⟩
      replace F : Hid (w5.heap[w1.heap.size]? = some (.cells #[.int .i64 a, .int .i64 c, .int .i64 so, .int .i64 sv, .int .i64 sb, .string d] 29)) := get_below hb F.out (size_of_get F.out)
      replace HB : Hid (Below w.heap.size w w5) := HB.out.trans (hb.mono HB.out.size)
      replace HE : Hid (Eof w5) := HE.out.below hb
      replace R0 : Hid (IsRow .u8 w5 a0 l0 c0 z0) := IsRow.keep R0.out hb
      replace R1 : Hid (IsRow .u8 w5 a1 l1 c1 z1) := IsRow.keep R1.out hb
      clear hb
      replace F : Hid ((w5.alloc (.cells #[.int .i64 a2, .int .i64 c2, .int .i64 so2, .int .i64 sv2, .int .i64 sb2, .string d2] 29)).heap[w1.heap.size]? = some (.cells #[.int .i64 a, .int .i64 c, .int .i64 so, .int .i64 sv, .int .i64 sb, .string d] 29)) := get_alloc F.out (size_of_get F.out)
      have Y : Hid ((w5.alloc (.cells #[.int .i64 a2, .int .i64 c2, .int .i64 so2, .int .i64 sv2, .int .i64 sb2, .string d2] 29)).heap[w5.heap.size]? = some (.cells #[.int .i64 a2, .int .i64 c2, .int .i64 so2, .int .i64 sv2, .int .i64 sb2, .string d2] 29)) := get_new rfl
      replace HB : Hid (Below w.heap.size w (w5.alloc (.cells #[.int .i64 a2, .int .i64 c2, .int .i64 so2, .int .i64 sv2, .int .i64 sb2, .string d2] 29))) := HB.out.alloc HB.out.size _
      replace HE : Hid (Eof (w5.alloc (.cells #[.int .i64 a2, .int .i64 c2, .int .i64 so2, .int .i64 sv2, .int .i64 sb2, .string d2] 29))) := HE.out.below ((Below.refl _ _).alloc (Nat.le_refl _) _)
      replace R0 : Hid (IsRow .u8 (w5.alloc (.cells #[.int .i64 a2, .int .i64 c2, .int .i64 so2, .int .i64 sv2, .int .i64 sb2, .string d2] 29)) a0 l0 c0 z0) := IsRow.keep R0.out ((Below.refl _ _).alloc (Nat.le_refl _) _)
      replace R1 : Hid (IsRow .u8 (w5.alloc (.cells #[.int .i64 a2, .int .i64 c2, .int .i64 so2, .int .i64 sv2, .int .i64 sb2, .string d2] 29)) a1 l1 c1 z1) := IsRow.keep R1.out ((Below.refl _ _).alloc (Nat.le_refl _) _)
      go_wp2_with fail
      refine Calls.mono (HS2.out _) ?_
      rintro e w6 ⟨rfl, hb⟩
      replace F : Hid (w6.heap[w1.heap.size]? = some (.cells #[.int .i64 a, .int .i64 c, .int .i64 so, .int .i64 sv, .int .i64 sb, .string d] 29)) := get_below hb F.out (size_of_get F.out)
      replace Y : Hid (w6.heap[w5.heap.size]? = some (.cells #[.int .i64 a2, .int .i64 c2, .int .i64 so2, .int .i64 sv2, .int .i64 sb2, .string d2] 29)) := get_below hb Y.out (size_of_get Y.out)
      replace HB : Hid (Below w.heap.size w w6) := HB.out.trans (hb.mono HB.out.size)
      replace HE : Hid (Eof w6) := HE.out.below hb
      replace R0 : Hid (IsRow .u8 w6 a0 l0 c0 z0) := IsRow.keep R0.out hb
      replace R1 : Hid (IsRow .u8 w6 a1 l1 c1 z1) := IsRow.keep R1.out hb
      clear hb
      replace F : Hid ((w6.alloc (.cells #[.int .i64 a2, .int .i64 c2, .int .i64 so2, .int .i64 sv2, .int .i64 sb2, .string d2] 29)).heap[w1.heap.size]? = some (.cells #[.int .i64 a, .int .i64 c, .int .i64 so, .int .i64 sv, .int .i64 sb, .string d] 29)) := get_alloc F.out (size_of_get F.out)
      replace Y : Hid ((w6.alloc (.cells #[.int .i64 a2, .int .i64 c2, .int .i64 so2, .int .i64 sv2, .int .i64 sb2, .string d2] 29)).heap[w5.heap.size]? = some (.cells #[.int .i64 a2, .int .i64 c2, .int .i64 so2, .int .i64 sv2, .int .i64 sb2, .string d2] 29)) := get_alloc Y.out (size_of_get Y.out)
      have Z : Hid ((w6.alloc (.cells #[.int .i64 a2, .int .i64 c2, .int .i64 so2, .int .i64 sv2, .int .i64 sb2, .string d2] 29)).heap[w6.heap.size]? = some (.cells #[.int .i64 a2, .int .i64 c2, .int .i64 so2, .int .i64 sv2, .int .i64 sb2, .string d2] 29)) := get_new rfl
      replace HB : Hid (Below w.heap.size w (w6.alloc (.cells #[.int .i64 a2, .int .i64 c2, .int .i64 so2, .int .i64 sv2, .int .i64 sb2, .string d2] 29))) := HB.out.alloc HB.out.size _
      replace HE : Hid (Eof (w6.alloc (.cells #[.int .i64 a2, .int .i64 c2, .int .i64 so2, .int .i64 sv2, .int .i64 sb2, .string d2] 29))) := HE.out.below ((Below.refl _ _).alloc (Nat.le_refl _) _)
      replace R0 : Hid (IsRow .u8 (w6.alloc (.cells #[.int .i64 a2, .int .i64 c2, .int .i64 so2, .int .i64 sv2, .int .i64 sb2, .string d2] 29)) a0 l0 c0 z0) := IsRow.keep R0.out ((Below.refl _ _).alloc (Nat.le_refl _) _)
      replace R1 : Hid (IsRow .u8 (w6.alloc (.cells #[.int .i64 a2, .int .i64 c2, .int .i64 so2, .int .i64 sv2, .int .i64 sb2, .string d2] 29)) a1 l1 c1 z1) := IsRow.keep R1.out ((Below.refl _ _).alloc (Nat.le_refl _) _)
      clear HI2 HS2
      obtain ⟨Y_0, Y_1, Y_2, Y_3, Y_4, Y_5⟩ := cells6_of Y.out
      obtain ⟨Z_0, Z_1, Z_2, Z_3, Z_4, Z_5⟩ := cells6_of Z.out
      go_wp2_with fail
      clear Y_0 Y_1 Y_2 Y_3 Y_4 Y_5
      clear Z_0 Z_1 Z_2 Z_3 Z_4 Z_5
      refine Calls.mono (HPP.out _) ?_
      rintro e w7 ⟨rfl, hb⟩
      replace F : Hid (w7.heap[w1.heap.size]? = some (.cells #[.int .i64 a, .int .i64 c, .int .i64 so, .int .i64 sv, .int .i64 sb, .string d] 29)) := get_below hb F.out (size_of_get F.out)
      replace Y : Hid (w7.heap[w5.heap.size]? = some (.cells #[.int .i64 a2, .int .i64 c2, .int .i64 so2, .int .i64 sv2, .int .i64 sb2, .string d2] 29)) := get_below hb Y.out (size_of_get Y.out)
      replace Z : Hid (w7.heap[w6.heap.size]? = some (.cells #[.int .i64 a2, .int .i64 c2, .int .i64 so2, .int .i64 sv2, .int .i64 sb2, .string d2] 29)) := get_below hb Z.out (size_of_get Z.out)
      replace HB : Hid (Below w.heap.size w w7) := HB.out.trans (hb.mono HB.out.size)
      replace HE : Hid (Eof w7) := HE.out.below hb
      replace R0 : Hid (IsRow .u8 w7 a0 l0 c0 z0) := IsRow.keep R0.out hb
      replace R1 : Hid (IsRow .u8 w7 a1 l1 c1 z1) := IsRow.keep R1.out hb
      clear hb
      go_wp2_with fail
      go_ret
      exact ⟨rfl, HB.out⟩
    · have v1 := cgV_no hok
      generalize hK : cgK s = K at *
      have hKn : ¬ (K = 0) := hok
      have hKb : (K != 0) = true := by rw [bne_iff_ne]; exact hok
      have HI2 : Hid (∀ W, Eof W → Calls Tryd.prog 19 #[.string s] W fun e w' => e = .returned (.tuple #[.agg #[.int .i64 0, .int .i64 0, .int .i64 0, .int .i64 0, .int .i64 0, .string ⟨#[]⟩], .int .i64 K]) ∧ Below W.heap.size W w') := fun W he => by have := implCmdGet_any s W (by omega) he; rw [v1, hK] at this; exact this
      have HS2 : Hid (∀ W, Calls Tryd.prog 18 #[.string s] W fun e w' => e = .returned (.tuple #[.agg #[.int .i64 0, .int .i64 0, .int .i64 0, .int .i64 0, .int .i64 0, .string ⟨#[]⟩], .int .i64 K]) ∧ Below W.heap.size W w') := fun W => by have := specCmdGet_any s W (by omega); rw [v1, hK] at this; exact this
      clear v1 hok hK
      go_wp2_with fail
      refine Calls.mono (HI2.out _ HE.out) ?_
      rintro e w5 ⟨rfl, hb⟩
      replace F : Hid (w5.heap[w1.heap.size]? = some (.cells #[.int .i64 a, .int .i64 c, .int .i64 so, .int .i64 sv, .int .i64 sb, .string d] 29)) := get_below hb F.out (size_of_get F.out)
      replace HB : Hid (Below w.heap.size w w5) := HB.out.trans (hb.mono HB.out.size)
      replace HE : Hid (Eof w5) := HE.out.below hb
      replace R0 : Hid (IsRow .u8 w5 a0 l0 c0 z0) := IsRow.keep R0.out hb
      replace R1 : Hid (IsRow .u8 w5 a1 l1 c1 z1) := IsRow.keep R1.out hb
      clear hb
      replace F : Hid ((w5.alloc (.cells #[.int .i64 0, .int .i64 0, .int .i64 0, .int .i64 0, .int .i64 0, .string ⟨#[]⟩] 29)).heap[w1.heap.size]? = some (.cells #[.int .i64 a, .int .i64 c, .int .i64 so, .int .i64 sv, .int .i64 sb, .string d] 29)) := get_alloc F.out (size_of_get F.out)
      have Y : Hid ((w5.alloc (.cells #[.int .i64 0, .int .i64 0, .int .i64 0, .int .i64 0, .int .i64 0, .string ⟨#[]⟩] 29)).heap[w5.heap.size]? = some (.cells #[.int .i64 0, .int .i64 0, .int .i64 0, .int .i64 0, .int .i64 0, .string ⟨#[]⟩] 29)) := get_new rfl
      replace HB : Hid (Below w.heap.size w (w5.alloc (.cells #[.int .i64 0, .int .i64 0, .int .i64 0, .int .i64 0, .int .i64 0, .string ⟨#[]⟩] 29))) := HB.out.alloc HB.out.size _
      replace HE : Hid (Eof (w5.alloc (.cells #[.int .i64 0, .int .i64 0, .int .i64 0, .int .i64 0, .int .i64 0, .string ⟨#[]⟩] 29))) := HE.out.below ((Below.refl _ _).alloc (Nat.le_refl _) _)
      replace R0 : Hid (IsRow .u8 (w5.alloc (.cells #[.int .i64 0, .int .i64 0, .int .i64 0, .int .i64 0, .int .i64 0, .string ⟨#[]⟩] 29)) a0 l0 c0 z0) := IsRow.keep R0.out ((Below.refl _ _).alloc (Nat.le_refl _) _)
      replace R1 : Hid (IsRow .u8 (w5.alloc (.cells #[.int .i64 0, .int .i64 0, .int .i64 0, .int .i64 0, .int .i64 0, .string ⟨#[]⟩] 29)) a1 l1 c1 z1) := IsRow.keep R1.out ((Below.refl _ _).alloc (Nat.le_refl _) _)
      go_wp2_with fail
      refine Calls.mono (HS2.out _) ?_
      rintro e w6 ⟨rfl, hb⟩
      replace F : Hid (w6.heap[w1.heap.size]? = some (.cells #[.int .i64 a, .int .i64 c, .int .i64 so, .int .i64 sv, .int .i64 sb, .string d] 29)) := get_below hb F.out (size_of_get F.out)
      replace Y : Hid (w6.heap[w5.heap.size]? = some (.cells #[.int .i64 0, .int .i64 0, .int .i64 0, .int .i64 0, .int .i64 0, .string ⟨#[]⟩] 29)) := get_below hb Y.out (size_of_get Y.out)
      replace HB : Hid (Below w.heap.size w w6) := HB.out.trans (hb.mono HB.out.size)
      replace HE : Hid (Eof w6) := HE.out.below hb
      replace R0 : Hid (IsRow .u8 w6 a0 l0 c0 z0) := IsRow.keep R0.out hb
      replace R1 : Hid (IsRow .u8 w6 a1 l1 c1 z1) := IsRow.keep R1.out hb
      clear hb
      replace F : Hid ((w6.alloc (.cells #[.int .i64 0, .int .i64 0, .int .i64 0, .int .i64 0, .int .i64 0, .string ⟨#[]⟩] 29)).heap[w1.heap.size]? = some (.cells #[.int .i64 a, .int .i64 c, .int .i64 so, .int .i64 sv, .int .i64 sb, .string d] 29)) := get_alloc F.out (size_of_get F.out)
      replace Y : Hid ((w6.alloc (.cells #[.int .i64 0, .int .i64 0, .int .i64 0, .int .i64 0, .int .i64 0, .string ⟨#[]⟩] 29)).heap[w5.heap.size]? = some (.cells #[.int .i64 0, .int .i64 0, .int .i64 0, .int .i64 0, .int .i64 0, .string ⟨#[]⟩] 29)) := get_alloc Y.out (size_of_get Y.out)
      have Z : Hid ((w6.alloc (.cells #[.int .i64 0, .int .i64 0, .int .i64 0, .int .i64 0, .int .i64 0, .string ⟨#[]⟩] 29)).heap[w6.heap.size]? = some (.cells #[.int .i64 0, .int .i64 0, .int .i64 0, .int .i64 0, .int .i64 0, .string ⟨#[]⟩] 29)) := get_new rfl
      replace HB : Hid (Below w.heap.size w (w6.alloc (.cells #[.int .i64 0, .int .i64 0, .int .i64 0, .int .i64 0, .int .i64 0, .string ⟨#[]⟩] 29))) := HB.out.alloc HB.out.size _
      replace HE : Hid (Eof (w6.alloc (.cells #[.int .i64 0, .int .i64 0, .int .i64 0, .int .i64 0, .int .i64 0, .string ⟨#[]⟩] 29))) := HE.out.below ((Below.refl _ _).alloc (Nat.le_refl _) _)
      replace R0 : Hid (IsRow .u8 (w6.alloc (.cells #[.int .i64 0, .int .i64 0, .int .i64 0, .int .i64 0, .int .i64 0, .string ⟨#[]⟩] 29)) a0 l0 c0 z0) := IsRow.keep R0.out ((Below.refl _ _).alloc (Nat.le_refl _) _)
      replace R1 : Hid (IsRow .u8 (w6.alloc (.cells #[.int .i64 0, .int .i64 0, .int .i64 0, .int .i64 0, .int .i64 0, .string ⟨#[]⟩] 29)) a1 l1 c1 z1) := IsRow.keep R1.out ((Below.refl _ _).alloc (Nat.le_refl _) _)
      clear HI2 HS2
      obtain ⟨Y_0, Y_1, Y_2, Y_3, Y_4, Y_5⟩ := cells6_of Y.out
      obtain ⟨Z_0, Z_1, Z_2, Z_3, Z_4, Z_5⟩ := cells6_of Z.out
      go_wp2_with fail
      clear Y_0 Y_1 Y_2 Y_3 Y_4 Y_5
      clear Z_0 Z_1 Z_2 Z_3 Z_4 Z_5
      go_ret
      exact ⟨rfl, HB.out⟩
  | true =>
    obtain ⟨g1, g2, g3, g4, g5⟩ := cg_back hb (S := cmPut a c so sv sb d) rfl
    have HG1 : Hid (∀ W, Eof W → Calls Tryd.prog 19 #[.string (cmPut a c so sv sb d)] W fun e w' => e = .returned (.tuple #[.agg #[.int .i64 a, .int .i64 c, .int .i64 so, .int .i64 sv, .int .i64 sb, .string d], .int .i64 0]) ∧ Below W.heap.size W w') := fun W he => by have := implCmdGet_any (cmPut a c so sv sb d) W (by omega) he; rw [g1, g2] at this; exact this
    clear g1 g2 g5 hb
    generalize cmPut a c so sv sb d = t at *
    have hteq : (t.toList == t.toList) = true := by simp
    have hne : t.toList.isEmpty = false := ne_empty (by omega)
    obtain ⟨F_0, F_1, F_2, F_3, F_4, F_5⟩ := cells6_of F.out
    go_wp2_with fail
    clear F_0 F_1 F_2 F_3 F_4 F_5
    refine Calls.mono (HSP.out _) ?_
    rintro e w3 ⟨rfl, hb⟩
    replace F : Hid (w3.heap[w1.heap.size]? = some (.cells #[.int .i64 a, .int .i64 c, .int .i64 so, .int .i64 sv, .int .i64 sb, .string d] 29)) := get_below hb F.out (size_of_get F.out)
    replace HB : Hid (Below w.heap.size w w3) := HB.out.trans (hb.mono HB.out.size)
    replace HE : Hid (Eof w3) := HE.out.below hb
    replace R0 : Hid (IsRow .u8 w3 a0 l0 c0 z0) := IsRow.keep R0.out hb
    replace R1 : Hid (IsRow .u8 w3 a1 l1 c1 z1) := IsRow.keep R1.out hb
    clear hb
    clear HSP
    go_wp2_with fail
    refine Calls.mono (HG1.out _ HE.out) ?_
    rintro e w4 ⟨rfl, hb⟩
    replace F : Hid (w4.heap[w1.heap.size]? = some (.cells #[.int .i64 a, .int .i64 c, .int .i64 so, .int .i64 sv, .int .i64 sb, .string d] 29)) := get_below hb F.out (size_of_get F.out)
    replace HB : Hid (Below w.heap.size w w4) := HB.out.trans (hb.mono HB.out.size)
    replace HE : Hid (Eof w4) := HE.out.below hb
    replace R0 : Hid (IsRow .u8 w4 a0 l0 c0 z0) := IsRow.keep R0.out hb
    replace R1 : Hid (IsRow .u8 w4 a1 l1 c1 z1) := IsRow.keep R1.out hb
    clear hb
    replace F : Hid ((w4.alloc (.cells #[.int .i64 a, .int .i64 c, .int .i64 so, .int .i64 sv, .int .i64 sb, .string d] 29)).heap[w1.heap.size]? = some (.cells #[.int .i64 a, .int .i64 c, .int .i64 so, .int .i64 sv, .int .i64 sb, .string d] 29)) := get_alloc F.out (size_of_get F.out)
    have X : Hid ((w4.alloc (.cells #[.int .i64 a, .int .i64 c, .int .i64 so, .int .i64 sv, .int .i64 sb, .string d] 29)).heap[w4.heap.size]? = some (.cells #[.int .i64 a, .int .i64 c, .int .i64 so, .int .i64 sv, .int .i64 sb, .string d] 29)) := get_new rfl
    replace HB : Hid (Below w.heap.size w (w4.alloc (.cells #[.int .i64 a, .int .i64 c, .int .i64 so, .int .i64 sv, .int .i64 sb, .string d] 29))) := HB.out.alloc HB.out.size _
    replace HE : Hid (Eof (w4.alloc (.cells #[.int .i64 a, .int .i64 c, .int .i64 so, .int .i64 sv, .int .i64 sb, .string d] 29))) := HE.out.below ((Below.refl _ _).alloc (Nat.le_refl _) _)
    replace R0 : Hid (IsRow .u8 (w4.alloc (.cells #[.int .i64 a, .int .i64 c, .int .i64 so, .int .i64 sv, .int .i64 sb, .string d] 29)) a0 l0 c0 z0) := IsRow.keep R0.out ((Below.refl _ _).alloc (Nat.le_refl _) _)
    replace R1 : Hid (IsRow .u8 (w4.alloc (.cells #[.int .i64 a, .int .i64 c, .int .i64 so, .int .i64 sv, .int .i64 sb, .string d] 29)) a1 l1 c1 z1) := IsRow.keep R1.out ((Below.refl _ _).alloc (Nat.le_refl _) _)
    obtain ⟨F_0, F_1, F_2, F_3, F_4, F_5⟩ := cells6_of F.out
    obtain ⟨X_0, X_1, X_2, X_3, X_4, X_5⟩ := cells6_of X.out
    go_wp2_with fail
    clear F_0 F_1 F_2 F_3 F_4 F_5
    clear X_0 X_1 X_2 X_3 X_4 X_5
    clear HG1 hteq hne
    refine (DrawCmdGet_any a1 l1 c1 z1 _ R1.out).mono ?_
    rintro e w5 ⟨s, hs, rfl, hb⟩
    replace F : Hid (w5.heap[w1.heap.size]? = some (.cells #[.int .i64 a, .int .i64 c, .int .i64 so, .int .i64 sv, .int .i64 sb, .string d] 29)) := get_below hb F.out (size_of_get F.out)
    replace X : Hid (w5.heap[w4.heap.size]? = some (.cells #[.int .i64 a, .int .i64 c, .int .i64 so, .int .i64 sv, .int .i64 sb, .string d] 29)) := get_below hb X.out (size_of_get X.out)
    replace HB : Hid (Below w.heap.size w w5) := HB.out.trans (hb.mono HB.out.size)
    replace HE : Hid (Eof w5) := HE.out.below hb
    replace R0 : Hid (IsRow .u8 w5 a0 l0 c0 z0) := IsRow.keep R0.out hb
    replace R1 : Hid (IsRow .u8 w5 a1 l1 c1 z1) := IsRow.keep R1.out hb
    clear hb
    by_cases hok : cgK s = 0
    · have hput := cg_forth hok
      have v1 := cgV_yes hok
      have hK := hok
      have hd2 : ((pgD s).extract 4 ((pgD s).size - 2)).size ≤ maxLen := by rw [ByteArray.size_extract]; unfold pgD maxLen; rw [ByteArray.size_extract]; omega
      generalize pgA s = a2 at *
      generalize pgC s = c2 at *
      generalize ((byteAt (pgD s) 3 : Nat) : Int) = so2 at *
      generalize ((byteAt (pgD s) 1 : Nat) : Int) = sv2 at *
      generalize ((byteAt (pgD s) 2 : Nat) : Int) = sb2 at *
      generalize (pgD s).extract 4 ((pgD s).size - 2) = d2 at *
      have HPP : Hid (∀ W, Calls Tryd.prog 29 #[.agg #[.int .i64 a2, .int .i64 c2, .int .i64 so2, .int .i64 sv2, .int .i64 sb2, .string d2]] W fun e w' => e = .returned (.string s) ∧ Below W.heap.size W w') := fun W => by have := implCmdPut_any a2 c2 so2 sv2 sb2 d2 W hd2; rw [hput] at this; exact this
      have HI2 : Hid (∀ W, Eof W → Calls Tryd.prog 19 #[.string s] W fun e w' => e = .returned (.tuple #[.agg #[.int .i64 a2, .int .i64 c2, .int .i64 so2, .int .i64 sv2, .int .i64 sb2, .string d2], .int .i64 0]) ∧ Below W.heap.size W w') := fun W he => by have := implCmdGet_any s W (by omega) he; rw [v1, hK] at this; exact this
      have HS2 : Hid (∀ W, Calls Tryd.prog 18 #[.string s] W fun e w' => e = .returned (.tuple #[.agg #[.int .i64 a2, .int .i64 c2, .int .i64 so2, .int .i64 sv2, .int .i64 sb2, .string d2], .int .i64 0]) ∧ Below W.heap.size W w') := fun W => by have := specCmdGet_any s W (by omega); rw [v1, hK] at this; exact this
      clear hput hd2
      have hxx : (s.toList == s.toList) = true := by simp
      clear v1 hok hK
      go_wp2_with fail
      refine Calls.mono (HI2.out _ HE.out) ?_
      rintro e w6 ⟨rfl, hb⟩
      replace F : Hid (w6.heap[w1.heap.size]? = some (.cells #[.int .i64 a, .int .i64 c, .int .i64 so, .int .i64 sv, .int .i64 sb, .string d] 29)) := get_below hb F.out (size_of_get F.out)
      replace X : Hid (w6.heap[w4.heap.size]? = some (.cells #[.int .i64 a, .int .i64 c, .int .i64 so, .int .i64 sv, .int .i64 sb, .string d] 29)) := get_below hb X.out (size_of_get X.out)
      replace HB : Hid (Below w.heap.size w w6) := HB.out.trans (hb.mono HB.out.size)
      replace HE : Hid (Eof w6) := HE.out.below hb
      replace R0 : Hid (IsRow .u8 w6 a0 l0 c0 z0) := IsRow.keep R0.out hb
      replace R1 : Hid (IsRow .u8 w6 a1 l1 c1 z1) := IsRow.keep R1.out hb
      clear hb
      replace F : Hid ((w6.alloc (.cells #[.int .i64 a2, .int .i64 c2, .int .i64 so2, .int .i64 sv2, .int .i64 sb2, .string d2] 29)).heap[w1.heap.size]? = some (.cells #[.int .i64 a, .int .i64 c, .int .i64 so, .int .i64 sv, .int .i64 sb, .string d] 29)) := get_alloc F.out (size_of_get F.out)
      replace X : Hid ((w6.alloc (.cells #[.int .i64 a2, .int .i64 c2, .int .i64 so2, .int .i64 sv2, .int .i64 sb2, .string d2] 29)).heap[w4.heap.size]? = some (.cells #[.int .i64 a, .int .i64 c, .int .i64 so, .int .i64 sv, .int .i64 sb, .string d] 29)) := get_alloc X.out (size_of_get X.out)
      have Y : Hid ((w6.alloc (.cells #[.int .i64 a2, .int .i64 c2, .int .i64 so2, .int .i64 sv2, .int .i64 sb2, .string d2] 29)).heap[w6.heap.size]? = some (.cells #[.int .i64 a2, .int .i64 c2, .int .i64 so2, .int .i64 sv2, .int .i64 sb2, .string d2] 29)) := get_new rfl
      replace HB : Hid (Below w.heap.size w (w6.alloc (.cells #[.int .i64 a2, .int .i64 c2, .int .i64 so2, .int .i64 sv2, .int .i64 sb2, .string d2] 29))) := HB.out.alloc HB.out.size _
      replace HE : Hid (Eof (w6.alloc (.cells #[.int .i64 a2, .int .i64 c2, .int .i64 so2, .int .i64 sv2, .int .i64 sb2, .string d2] 29))) := HE.out.below ((Below.refl _ _).alloc (Nat.le_refl _) _)
      replace R0 : Hid (IsRow .u8 (w6.alloc (.cells #[.int .i64 a2, .int .i64 c2, .int .i64 so2, .int .i64 sv2, .int .i64 sb2, .string d2] 29)) a0 l0 c0 z0) := IsRow.keep R0.out ((Below.refl _ _).alloc (Nat.le_refl _) _)
      replace R1 : Hid (IsRow .u8 (w6.alloc (.cells #[.int .i64 a2, .int .i64 c2, .int .i64 so2, .int .i64 sv2, .int .i64 sb2, .string d2] 29)) a1 l1 c1 z1) := IsRow.keep R1.out ((Below.refl _ _).alloc (Nat.le_refl _) _)
      go_wp2_with fail
      refine Calls.mono (HS2.out _) ?_
      rintro e w7 ⟨rfl, hb⟩
      replace F : Hid (w7.heap[w1.heap.size]? = some (.cells #[.int .i64 a, .int .i64 c, .int .i64 so, .int .i64 sv, .int .i64 sb, .string d] 29)) := get_below hb F.out (size_of_get F.out)
      replace X : Hid (w7.heap[w4.heap.size]? = some (.cells #[.int .i64 a, .int .i64 c, .int .i64 so, .int .i64 sv, .int .i64 sb, .string d] 29)) := get_below hb X.out (size_of_get X.out)
      replace Y : Hid (w7.heap[w6.heap.size]? = some (.cells #[.int .i64 a2, .int .i64 c2, .int .i64 so2, .int .i64 sv2, .int .i64 sb2, .string d2] 29)) := get_below hb Y.out (size_of_get Y.out)
      replace HB : Hid (Below w.heap.size w w7) := HB.out.trans (hb.mono HB.out.size)
      replace HE : Hid (Eof w7) := HE.out.below hb
      replace R0 : Hid (IsRow .u8 w7 a0 l0 c0 z0) := IsRow.keep R0.out hb
      replace R1 : Hid (IsRow .u8 w7 a1 l1 c1 z1) := IsRow.keep R1.out hb
      clear hb
      replace F : Hid ((w7.alloc (.cells #[.int .i64 a2, .int .i64 c2, .int .i64 so2, .int .i64 sv2, .int .i64 sb2, .string d2] 29)).heap[w1.heap.size]? = some (.cells #[.int .i64 a, .int .i64 c, .int .i64 so, .int .i64 sv, .int .i64 sb, .string d] 29)) := get_alloc F.out (size_of_get F.out)
      replace X : Hid ((w7.alloc (.cells #[.int .i64 a2, .int .i64 c2, .int .i64 so2, .int .i64 sv2, .int .i64 sb2, .string d2] 29)).heap[w4.heap.size]? = some (.cells #[.int .i64 a, .int .i64 c, .int .i64 so, .int .i64 sv, .int .i64 sb, .string d] 29)) := get_alloc X.out (size_of_get X.out)
      replace Y : Hid ((w7.alloc (.cells #[.int .i64 a2, .int .i64 c2, .int .i64 so2, .int .i64 sv2, .int .i64 sb2, .string d2] 29)).heap[w6.heap.size]? = some (.cells #[.int .i64 a2, .int .i64 c2, .int .i64 so2, .int .i64 sv2, .int .i64 sb2, .string d2] 29)) := get_alloc Y.out (size_of_get Y.out)
      have Z : Hid ((w7.alloc (.cells #[.int .i64 a2, .int .i64 c2, .int .i64 so2, .int .i64 sv2, .int .i64 sb2, .string d2] 29)).heap[w7.heap.size]? = some (.cells #[.int .i64 a2, .int .i64 c2, .int .i64 so2, .int .i64 sv2, .int .i64 sb2, .string d2] 29)) := get_new rfl
      replace HB : Hid (Below w.heap.size w (w7.alloc (.cells #[.int .i64 a2, .int .i64 c2, .int .i64 so2, .int .i64 sv2, .int .i64 sb2, .string d2] 29))) := HB.out.alloc HB.out.size _
      replace HE : Hid (Eof (w7.alloc (.cells #[.int .i64 a2, .int .i64 c2, .int .i64 so2, .int .i64 sv2, .int .i64 sb2, .string d2] 29))) := HE.out.below ((Below.refl _ _).alloc (Nat.le_refl _) _)
      replace R0 : Hid (IsRow .u8 (w7.alloc (.cells #[.int .i64 a2, .int .i64 c2, .int .i64 so2, .int .i64 sv2, .int .i64 sb2, .string d2] 29)) a0 l0 c0 z0) := IsRow.keep R0.out ((Below.refl _ _).alloc (Nat.le_refl _) _)
      replace R1 : Hid (IsRow .u8 (w7.alloc (.cells #[.int .i64 a2, .int .i64 c2, .int .i64 so2, .int .i64 sv2, .int .i64 sb2, .string d2] 29)) a1 l1 c1 z1) := IsRow.keep R1.out ((Below.refl _ _).alloc (Nat.le_refl _) _)
      clear HI2 HS2
      obtain ⟨Y_0, Y_1, Y_2, Y_3, Y_4, Y_5⟩ := cells6_of Y.out
      obtain ⟨Z_0, Z_1, Z_2, Z_3, Z_4, Z_5⟩ := cells6_of Z.out
      go_wp2_with fail
      clear Y_0 Y_1 Y_2 Y_3 Y_4 Y_5
      clear Z_0 Z_1 Z_2 Z_3 Z_4 Z_5
      refine Calls.mono (HPP.out _) ?_
      rintro e w8 ⟨rfl, hb⟩
      replace F : Hid (w8.heap[w1.heap.size]? = some (.cells #[.int .i64 a, .int .i64 c, .int .i64 so, .int .i64 sv, .int .i64 sb, .string d] 29)) := get_below hb F.out (size_of_get F.out)
      replace X : Hid (w8.heap[w4.heap.size]? = some (.cells #[.int .i64 a, .int .i64 c, .int .i64 so, .int .i64 sv, .int .i64 sb, .string d] 29)) := get_below hb X.out (size_of_get X.out)
      replace Y : Hid (w8.heap[w6.heap.size]? = some (.cells #[.int .i64 a2, .int .i64 c2, .int .i64 so2, .int .i64 sv2, .int .i64 sb2, .string d2] 29)) := get_below hb Y.out (size_of_get Y.out)
      replace Z : Hid (w8.heap[w7.heap.size]? = some (.cells #[.int .i64 a2, .int .i64 c2, .int .i64 so2, .int .i64 sv2, .int .i64 sb2, .string d2] 29)) := get_below hb Z.out (size_of_get Z.out)
      replace HB : Hid (Below w.heap.size w w8) := HB.out.trans (hb.mono HB.out.size)
      replace HE : Hid (Eof w8) := HE.out.below hb
      replace R0 : Hid (IsRow .u8 w8 a0 l0 c0 z0) := IsRow.keep R0.out hb
      replace R1 : Hid (IsRow .u8 w8 a1 l1 c1 z1) := IsRow.keep R1.out hb
      clear hb
      go_wp2_with fail
      go_ret
      exact ⟨rfl, HB.out⟩
    · have v1 := cgV_no hok
      generalize hK : cgK s = K at *
      have hKn : ¬ (K = 0) := hok
      have hKb : (K != 0) = true := by rw [bne_iff_ne]; exact hok
      have HI2 : Hid (∀ W, Eof W → Calls Tryd.prog 19 #[.string s] W fun e w' => e = .returned (.tuple #[.agg #[.int .i64 0, .int .i64 0, .int .i64 0, .int .i64 0, .int .i64 0, .string ⟨#[]⟩], .int .i64 K]) ∧ Below W.heap.size W w') := fun W he => by have := implCmdGet_any s W (by omega) he; rw [v1, hK] at this; exact this
      have HS2 : Hid (∀ W, Calls Tryd.prog 18 #[.string s] W fun e w' => e = .returned (.tuple #[.agg #[.int .i64 0, .int .i64 0, .int .i64 0, .int .i64 0, .int .i64 0, .string ⟨#[]⟩], .int .i64 K]) ∧ Below W.heap.size W w') := fun W => by have := specCmdGet_any s W (by omega); rw [v1, hK] at this; exact this
      clear v1 hok hK
      go_wp2_with fail
      refine Calls.mono (HI2.out _ HE.out) ?_
      rintro e w6 ⟨rfl, hb⟩
      replace F : Hid (w6.heap[w1.heap.size]? = some (.cells #[.int .i64 a, .int .i64 c, .int .i64 so, .int .i64 sv, .int .i64 sb, .string d] 29)) := get_below hb F.out (size_of_get F.out)
      replace X : Hid (w6.heap[w4.heap.size]? = some (.cells #[.int .i64 a, .int .i64 c, .int .i64 so, .int .i64 sv, .int .i64 sb, .string d] 29)) := get_below hb X.out (size_of_get X.out)
      replace HB : Hid (Below w.heap.size w w6) := HB.out.trans (hb.mono HB.out.size)
      replace HE : Hid (Eof w6) := HE.out.below hb
      replace R0 : Hid (IsRow .u8 w6 a0 l0 c0 z0) := IsRow.keep R0.out hb
      replace R1 : Hid (IsRow .u8 w6 a1 l1 c1 z1) := IsRow.keep R1.out hb
      clear hb
      replace F : Hid ((w6.alloc (.cells #[.int .i64 0, .int .i64 0, .int .i64 0, .int .i64 0, .int .i64 0, .string ⟨#[]⟩] 29)).heap[w1.heap.size]? = some (.cells #[.int .i64 a, .int .i64 c, .int .i64 so, .int .i64 sv, .int .i64 sb, .string d] 29)) := get_alloc F.out (size_of_get F.out)
      replace X : Hid ((w6.alloc (.cells #[.int .i64 0, .int .i64 0, .int .i64 0, .int .i64 0, .int .i64 0, .string ⟨#[]⟩] 29)).heap[w4.heap.size]? = some (.cells #[.int .i64 a, .int .i64 c, .int .i64 so, .int .i64 sv, .int .i64 sb, .string d] 29)) := get_alloc X.out (size_of_get X.out)
      have Y : Hid ((w6.alloc (.cells #[.int .i64 0, .int .i64 0, .int .i64 0, .int .i64 0, .int .i64 0, .string ⟨#[]⟩] 29)).heap[w6.heap.size]? = some (.cells #[.int .i64 0, .int .i64 0, .int .i64 0, .int .i64 0, .int .i64 0, .string ⟨#[]⟩] 29)) := get_new rfl
      replace HB : Hid (Below w.heap.size w (w6.alloc (.cells #[.int .i64 0, .int .i64 0, .int .i64 0, .int .i64 0, .int .i64 0, .string ⟨#[]⟩] 29))) := HB.out.alloc HB.out.size _
      replace HE : Hid (Eof (w6.alloc (.cells #[.int .i64 0, .int .i64 0, .int .i64 0, .int .i64 0, .int .i64 0, .string ⟨#[]⟩] 29))) := HE.out.below ((Below.refl _ _).alloc (Nat.le_refl _) _)
      replace R0 : Hid (IsRow .u8 (w6.alloc (.cells #[.int .i64 0, .int .i64 0, .int .i64 0, .int .i64 0, .int .i64 0, .string ⟨#[]⟩] 29)) a0 l0 c0 z0) := IsRow.keep R0.out ((Below.refl _ _).alloc (Nat.le_refl _) _)
      replace R1 : Hid (IsRow .u8 (w6.alloc (.cells #[.int .i64 0, .int .i64 0, .int .i64 0, .int .i64 0, .int .i64 0, .string ⟨#[]⟩] 29)) a1 l1 c1 z1) := IsRow.keep R1.out ((Below.refl _ _).alloc (Nat.le_refl _) _)
      go_wp2_with fail
      refine Calls.mono (HS2.out _) ?_
      rintro e w7 ⟨rfl, hb⟩
      replace F : Hid (w7.heap[w1.heap.size]? = some (.cells #[.int .i64 a, .int .i64 c, .int .i64 so, .int .i64 sv, .int .i64 sb, .string d] 29)) := get_below hb F.out (size_of_get F.out)
      replace X : Hid (w7.heap[w4.heap.size]? = some (.cells #[.int .i64 a, .int .i64 c, .int .i64 so, .int .i64 sv, .int .i64 sb, .string d] 29)) := get_below hb X.out (size_of_get X.out)
      replace Y : Hid (w7.heap[w6.heap.size]? = some (.cells #[.int .i64 0, .int .i64 0, .int .i64 0, .int .i64 0, .int .i64 0, .string ⟨#[]⟩] 29)) := get_below hb Y.out (size_of_get Y.out)
      replace HB : Hid (Below w.heap.size w w7) := HB.out.trans (hb.mono HB.out.size)
      replace HE : Hid (Eof w7) := HE.out.below hb
      replace R0 : Hid (IsRow .u8 w7 a0 l0 c0 z0) := IsRow.keep R0.out hb
      replace R1 : Hid (IsRow .u8 w7 a1 l1 c1 z1) := IsRow.keep R1.out hb
      clear hb
      replace F : Hid ((w7.alloc (.cells #[.int .i64 0, .int .i64 0, .int .i64 0, .int .i64 0, .int .i64 0, .string ⟨#[]⟩] 29)).heap[w1.heap.size]? = some (.cells #[.int .i64 a, .int .i64 c, .int .i64 so, .int .i64 sv, .int .i64 sb, .string d] 29)) := get_alloc F.out (size_of_get F.out)
      replace X : Hid ((w7.alloc (.cells #[.int .i64 0, .int .i64 0, .int .i64 0, .int .i64 0, .int .i64 0, .string ⟨#[]⟩] 29)).heap[w4.heap.size]? = some (.cells #[.int .i64 a, .int .i64 c, .int .i64 so, .int .i64 sv, .int .i64 sb, .string d] 29)) := get_alloc X.out (size_of_get X.out)
      replace Y : Hid ((w7.alloc (.cells #[.int .i64 0, .int .i64 0, .int .i64 0, .int .i64 0, .int .i64 0, .string ⟨#[]⟩] 29)).heap[w6.heap.size]? = some (.cells #[.int .i64 0, .int .i64 0, .int .i64 0, .int .i64 0, .int .i64 0, .string ⟨#[]⟩] 29)) := get_alloc Y.out (size_of_get Y.out)
      have Z : Hid ((w7.alloc (.cells #[.int .i64 0, .int .i64 0, .int .i64 0, .int .i64 0, .int .i64 0, .string ⟨#[]⟩] 29)).heap[w7.heap.size]? = some (.cells #[.int .i64 0, .int .i64 0, .int .i64 0, .int .i64 0, .int .i64 0, .string ⟨#[]⟩] 29)) := get_new rfl
      replace HB : Hid (Below w.heap.size w (w7.alloc (.cells #[.int .i64 0, .int .i64 0, .int .i64 0, .int .i64 0, .int .i64 0, .string ⟨#[]⟩] 29))) := HB.out.alloc HB.out.size _
      replace HE : Hid (Eof (w7.alloc (.cells #[.int .i64 0, .int .i64 0, .int .i64 0, .int .i64 0, .int .i64 0, .string ⟨#[]⟩] 29))) := HE.out.below ((Below.refl _ _).alloc (Nat.le_refl _) _)
      replace R0 : Hid (IsRow .u8 (w7.alloc (.cells #[.int .i64 0, .int .i64 0, .int .i64 0, .int .i64 0, .int .i64 0, .string ⟨#[]⟩] 29)) a0 l0 c0 z0) := IsRow.keep R0.out ((Below.refl _ _).alloc (Nat.le_refl _) _)
      replace R1 : Hid (IsRow .u8 (w7.alloc (.cells #[.int .i64 0, .int .i64 0, .int .i64 0, .int .i64 0, .int .i64 0, .string ⟨#[]⟩] 29)) a1 l1 c1 z1) := IsRow.keep R1.out ((Below.refl _ _).alloc (Nat.le_refl _) _)
      clear HI2 HS2
      obtain ⟨Y_0, Y_1, Y_2, Y_3, Y_4, Y_5⟩ := cells6_of Y.out
      obtain ⟨Z_0, Z_1, Z_2, Z_3, Z_4, Z_5⟩ := cells6_of Z.out
      go_wp2_with fail
      clear Y_0 Y_1 Y_2 Y_3 Y_4 Y_5
      clear Z_0 Z_1 Z_2 Z_3 Z_4 Z_5
      go_ret
      exact ⟨rfl, HB.out⟩
theorem FnCmdBack_g0 : Tryd.prog.globalNamed "io.EOF" = some 1 := by kernel_rfl
theorem FnCmdBack_t0 : (Tryd.prog.globals[1]?).map (·.type) = some 107 := by kernel_rfl
theorem FnCmdBack_star : "*" ++ "errors.errorString" = "*errors.errorString" := by decide
theorem FnCmdBack_rowP (u : TypeId) (h : Tryd.prog.typeName? 3 u = some "*errors.errorString") : u = 158 :=
  typeName_ptr_named (nm := "errors.errorString") (by rw [FnCmdBack_star]; kernel_rfl) (by kernel_rfl) (by decide) u (by rw [FnCmdBack_star]; exact h)
theorem FnCmdBack_c1 : Tryd.prog.cellsOf 174 = 1 := by kernel_rfl
theorem FnCmdBack_c2 : Tryd.prog.cellsOf 9 = 1 := by kernel_rfl
def FnCmdBack_list : List (String × DataW Unit) := [("io.EOF", Rows.laid_io_EOF)]
theorem FnCmdBack_met (os : Os) (args : Array Value) : laidMetH Tryd.prog FnCmdBack_list ((World.doorLaid Tryd.prog 400 os).forCall (fun _ _ => 0) ⟨#[], args, []⟩).memory :=
  laidMetH_of_parts3 (fuel := 8) (laidMet_of_run' 8 (by kernel_rfl) (by kernel_rfl)) (by kernel_rfl) (by kernel_rfl)
theorem FnCmdBack_var {W W' : World} {n : String} {cs : Array Value} (k : Below W.heap.size W W') (h : W.var? Tryd.prog n = some cs) : W'.var? Tryd.prog n = some cs := by
  unfold World.var? at h ⊢
  cases hg : Tryd.prog.globalNamed n with
  | none => simp [hg] at h
  | some g =>
    simp only [hg, Option.bind_some] at h ⊢
    have hlt : g < W.heap.size := by
      rcases Nat.lt_or_ge g W.heap.size with h' | h'
      · exact h'
      · simp [Array.getElem?_eq_none h'] at h
    rw [k.block g hlt]; exact h
theorem FnCmdBack_of {W : World} (h : laidMetH Tryd.prog FnCmdBack_list W) : ∃ x0 : Addr, W.var? Tryd.prog "io.EOF" = some #[.iface 158 (.pointer (some x0))] := by
  rw [MakeChecks.laidMetH_plain _ _ _ (by kernel_rfl)] at h
  obtain ⟨x0, _, v0, _⟩ := laid_sentinel h FnCmdBack_g0 FnCmdBack_t0 Tryd.underlying107 FnCmdBack_rowP Tryd.underlying158 Tryd.underlying174 rfl rfl Tryd.underlying9 FnCmdBack_c1 FnCmdBack_c2
  exact ⟨x0, v0⟩
theorem FnCmdBack_own : ownKnob Tryd.prog.godebug = none := by kernel_rfl
theorem FnCmdBack_laidOut : laidOutB Tryd.prog = true := by kernel_rfl
set_option maxRecDepth 100000 in
theorem FnCmdBack_lifted (os : Os) (started : os.Started) (H : Type) (enc : TypeId × Value → H) :
    ReturnsInHanded {} Tryd.checked os 7 .any (fun w args => (Rows.fnCmdBackSpec.pre enc Tryd.prog Tryd.f7 [] false w args ∧ laidMetH Tryd.prog FnCmdBack_list w) ∧ sizedMet enc Tryd.prog Tryd.f7 (OpenSpec.ofChange Rows.fnCmdBackSpec) false w args) (Rows.fnCmdBackSpec.post enc Tryd.prog Tryd.f7 false true false false) := by
  refine returnsInHanded_of_change_and (C := Tryd.checked) (X := fun w _ => laidMetH Tryd.prog FnCmdBack_list w) (fun _ _ _ hh h => h.of_heap hh) FnCmdBack_own started (by kernel_rfl) Tryd.func7
    (ChangeSpec.witness_shaped (enc := enc) (C := Tryd.checked) (os := os) (X := fun w _ => laidMetH Tryd.prog FnCmdBack_list w) false (World.doorLaid Tryd.prog 400 os) #[.slice none 0 0, .slice none 0 0] 8 rfl (World.shaped_of_RefB (by kernel_rfl) (by kernel_rfl)) (by kernel_rfl) (by kernel_rfl) (by kernel_rfl) (FnCmdBack_met os _)) ?_
  intro W base args ds gs before hval0 hW hcnd _ hL _
  have hval : ∀ (j : Nat) t v, Tryd.f7.params[j]? = some t → args[j]? = some v → Value.okWide Tryd.prog W .any base t v := hval0
  have hW' := hW
  obtain ⟨p, q, hA0, hV0, rfl, hfz, hnd⟩ := hW
  have hV : DataW.TrodVars enc Tryd.prog W (fun _ => true) [] gs q := hV0
  obtain ⟨x0, hv0⟩ := FnCmdBack_of hL
  have hA : DataW.TrodAll enc Tryd.prog W 0 (fun _ => true) true Tryd.f7.params.toList args.toList ds p := hA0
  rw [Tryd.params7] at hA hval
  obtain ⟨v0, vs0, d0, ds0, p0, q0, hargs, rfl, rfl, h0, r0⟩ := trodAll_cons hA
  obtain ⟨v1, vs1, d1, ds1, p1, q1, rfl, rfl, rfl, h1, r1⟩ := trodAll_cons r0
  obtain ⟨rfl, rfl, rfl⟩ := trodAll_nil r1
  obtain rfl : args = #[v0, v1] := by cases args; simp_all
  obtain ⟨rfl, rfl⟩ := trodVars_none hV
  obtain ⟨a0, len0, cap0, rfl⟩ := okWide_slice Tryd.underlying39 (hval 0 39 v0 rfl rfl)
  have k0 := h0
  have lt0 : ∀ x ∈ p0, x.block < W.heap.size := by obtain ⟨m, hm⟩ := k0; exact DataW.trod_lt m _ _ _ hm
  obtain ⟨z0, w0⟩ : ∃ zs, IsRow .u8 W a0 len0 cap0 zs := by
    obtain ⟨fuel, hf⟩ := h0
    rcases open_ints Tryd.underlying39 Tryd.underlying5 (by kernel_rfl) hf with ⟨hcs, _⟩ | ⟨x, l, c, zs, hcs, _, hl, hm, hz, _, hcell, hwz⟩
    · simp [Value.cells] at hcs
      obtain ⟨rfl, rfl, rfl⟩ := hcs
      exact ⟨[], .inl ⟨rfl, rfl, rfl, rfl⟩⟩
    · simp [Value.cells] at hcs
      obtain ⟨rfl, rfl, rfl⟩ := hcs
      exact ⟨zs, .inr ⟨_, rfl, hl, hm, by simpa using hz, hcell, hwz⟩⟩
  obtain ⟨a1, len1, cap1, rfl⟩ := okWide_slice Tryd.underlying39 (hval 1 39 v1 rfl rfl)
  have k1 := h1
  have lt1 : ∀ x ∈ p1, x.block < W.heap.size := by obtain ⟨m, hm⟩ := k1; exact DataW.trod_lt m _ _ _ hm
  obtain ⟨z1, w1⟩ : ∃ zs, IsRow .u8 W a1 len1 cap1 zs := by
    obtain ⟨fuel, hf⟩ := h1
    rcases open_ints Tryd.underlying39 Tryd.underlying5 (by kernel_rfl) hf with ⟨hcs, _⟩ | ⟨x, l, c, zs, hcs, _, hl, hm, hz, _, hcell, hwz⟩
    · simp [Value.cells] at hcs
      obtain ⟨rfl, rfl, rfl⟩ := hcs
      exact ⟨[], .inl ⟨rfl, rfl, rfl, rfl⟩⟩
    · simp [Value.cells] at hcs
      obtain ⟨rfl, rfl, rfl⟩ := hcs
      exact ⟨zs, .inr ⟨_, rfl, hl, hm, by simpa using hz, hcell, hwz⟩⟩
  clear hA0 hval0 hV0
  refine (FnCmdBack_walk a0 len0 cap0 z0 a1 len1 cap1 z1 W w0 w1 ⟨_, rfl, (by simpa using World.var?_cell FnCmdBack_g0 hv0 0)⟩).mono fun e W' ⟨he, bel⟩ => ?_
  subst he
  exact ⟨_, rfl, _, _, _, [], _, _, hW', trodAll_mk1 (shut_bool Tryd.underlying4 _), (trodAll_cons_mk (Below.trod FnCmdBack_laidOut (by kernel_rfl) (of_decide_eq_true (by kernel_rfl)) k0 bel lt0) (trodAll_cons_mk (Below.trod FnCmdBack_laidOut (by kernel_rfl) (of_decide_eq_true (by kernel_rfl)) k1 bel lt1) trodAll_mk0)), rfl, bel.frame _, fun h => by cases h⟩
theorem FnCmdBack_holds : Rows.FnCmdBackSaid :=
  OpenClaim.holds_of_wide 7 Tryd.f7 rfl rfl rfl rfl rfl rfl rfl ⟨rfl, rfl, rfl, rfl, rfl⟩ rfl rfl rfl rfl rfl (by kernel_rfl) Tryd.func7 (by kernel_rfl)
    (of_decide_eq_true (by kernel_rfl)) (by unfold Func.isWrapper; first | (rw [if_pos (by decide +kernel)]; kernel_rfl) | (rw [if_neg (by decide +kernel)]; exact ⟨rfl, rfl⟩))
    (fun os started H enc _ => FnCmdBack_lifted os started H enc)
theorem FnCmdBack_card : Rows.FnCmdBackCardSaid :=
  Claim7.holds_tied_plain_at .later [] [.sentinel] true (true, "d4916f3d9a9138b16cf3363f0ab1195dfe45625b95ab6948d0d5fdd4665c0b46") false
    FnCmdBack_holds (fun _ h => by cases h) (by kernel_rfl) (fun _ h => by cases h) fnCmdBack_row_tie rfl ⟨rfl, rfl⟩ (by kernel_rfl) rfl
    (fun f fn hf hfn => by
      obtain rfl : f = 7 := Option.some.inj ((show Tryd.prog.funcNamed "loop.example/skyway/laws.FnCmdBack" = some 7 by kernel_rfl).symm.trans hf) |>.symm
      obtain rfl : fn = Tryd.f7 := (Option.some.inj (Tryd.func7.symm.trans hfn)).symm
      exact ⟨by kernel_rfl, fun j t ht => by
        rw [Tryd.params7] at ht
        have hm : t ∈ ([39, 39] : List TypeId) := by simpa using Array.mem_of_getElem? ht
        have hall : (([39, 39] : List TypeId).all fun u => !Tryd.prog.wantsStandIn u) = true := by kernel_rfl
        exact (show Tryd.prog.wantsStandIn t = false by simpa using List.all_eq_true.1 hall t hm)⟩)
    (by kernel_rfl)
#print axioms FnCmdBack_card
end Go.Proofs.YtccpdadabndleaaDoor
