/- Proved: laws.FnSegOther returns true at every slice of bytes (a part that goes another way changes nothing), and leaves it as it was, as a tied card: bytes.ErrTooLarge holds what the library's text lays in it. No other condition. -/
import Derived.Test.YtgejiiaocgacmaaDoorDrSg
import Derived.Test.YtgejiiaocgacmaaDoorShJ
import Derived.Test.YtgejiiaocgacmaaDoorCards
import Derived.Test.YtgejiiaocgacmaaDoorTie
import Derived.LaidMore
import Derived.Stop.LaidErr
import Derived.Stop.Joined
import Derived.Stop.ErrReads
import Derived.SevenTiedAt
import Derived.OpenShut
import Derived.ShutString
namespace Go.Proofs.YtgejiiaocgacmaaDoor
open Go.ChangeShapes Go.WideShapes Go.ChangeAt Go.RowKit
open Go.ChangeMaps (open_string shut_string)
set_option linter.unusedVariables false
theorem skJoin_same (o : Bool) (d : ByteArray) (w : World) :
    Calls Tryd.prog 24 #[.agg #[.bool o, .string d], .agg #[.bool o, .string d]] w fun e w' => e = .returned (.bool true) ∧ Below w.heap.size w w' := by
  have hb : Hid (∀ n, Below w.heap.size w (((w.alloc (.cells #[.bool o, .string d] 25)).alloc (.cells #[.bool o, .string d] 25)).drewN n)) := fun n => belowN (((Below.refl _ _).alloc (Nat.le_refl _) _).alloc (by simp) _) n
  cases o
  all_goals
    go_enter Tryd.func24, Tryd.ntmps24
    go_wp2_with fail
    first | (go_quiet (fail); go_wp2_with fail; go_ret; exact ⟨by simp, hb.out _⟩) | (go_ret; exact ⟨by simp, hb.out 0⟩)
theorem shV_ok (o : Bool) (d p : ByteArray) (via : Int) (h : jnOk o d = true) : jnOk (shV o d p via).1 (shV o d p via).2.1 = true ∧ (shV o d p via).2.2.size ≤ 106 := by
  have hz : (⟨#[]⟩ : ByteArray).size = 0 := rfl
  have he : jnOk false ⟨#[]⟩ = true := by unfold jnOk; rw [hz]; simp
  unfold shV
  rw [if_pos h]
  split
  · unfold shR
    split
    · rename_i hc
      split
      · exact ⟨he, by rw [ByteArray.size_append]; exact hc.2⟩
      · refine ⟨?_, by show (⟨#[]⟩ : ByteArray).size ≤ 106; omega⟩
        have hs : (shT d (byteAt p 0 / 64) ++ p.extract 1 p.size).size ≤ 106 := by rw [ByteArray.size_append]; exact hc.2
        simp only [jnOk, Bool.true_or, Bool.and_true, decide_eq_true_eq]
        omega
    · exact ⟨he, by show (⟨#[]⟩ : ByteArray).size ≤ 106; omega⟩
  · exact ⟨h, by show (⟨#[]⟩ : ByteArray).size ≤ 106; omega⟩
theorem shV_other (o : Bool) (d p : ByteArray) (v : Int) (h : jnOk o d = true) (hv : ((byteAt p 0 % 64 : Nat) : Int) ≠ v) : shV o d p v = (o, d, ⟨#[]⟩) := by
  unfold shV
  rw [if_pos h, if_neg (fun k => hv k.2.2)]
set_option maxRecDepth 100000 in
set_option maxHeartbeats 4000000 in
theorem FnSegOther_walk (a0 : Option Addr) (l0 c0 : Nat) (z0 : List Int) (w : World) (h0 : IsRow .u8 w a0 l0 c0 z0) :
    Calls Tryd.prog 6 #[.slice a0 l0 c0] w fun e w' => e = .returned (.bool true) ∧ Below w.heap.size w w' := by
  by_cases hb0 : 1048576 < (l0 : Int)
  · go_enter Tryd.func6, Tryd.ntmps6
    go_wp2_with fail
    go_ret
    exact ⟨rfl, Below.refl _ _⟩
  have R0 : Hid _ := h0
  have HB : Hid (Below w.heap.size w w) := Below.refl _ _
  clear h0
  go_enter Tryd.func6, Tryd.ntmps6
  go_wp2_with fail
  refine (DrawSegHear_any a0 l0 c0 z0 _ R0.out).mono ?_
  rintro e w1 ⟨o, d, p, via, hdz, hpz, hv0, hv1, rfl, hb⟩
  replace HB : Hid (Below w.heap.size w w1) := HB.out.trans (hb.mono HB.out.size)
  replace R0 : Hid (IsRow .u8 w1 a0 l0 c0 z0) := IsRow.keep R0.out hb
  clear hb
  have hdm : d.size ≤ maxLen := by unfold maxLen; omega
  have hpm : p.size ≤ 1048576 := by omega
  obtain ⟨A, B, C, hR⟩ : ∃ A B C, shV o d p via = (A, B, C) := ⟨_, _, _, rfl⟩
  have hOK : jnOk o d = true → jnOk A B = true ∧ C.size ≤ 106 := fun h => by have := shV_ok o d p via h; rw [hR] at this; exact this
  have HIM : Hid (∀ W, Calls Tryd.prog 17 #[.agg #[.bool o, .string d], .string p, .int .i64 via] W fun e w' => e = .returned (.tuple #[.agg #[.bool A, .string B], .string C]) ∧ Below W.heap.size W w') := fun W => by have := implSegHear_any o d p via W hdm hpm; rw [hR] at this; exact this
  have HSP : Hid (∀ W, Calls Tryd.prog 15 #[.agg #[.bool o, .string d], .string p, .int .i64 via] W fun e w' => e = .returned (.tuple #[.agg #[.bool A, .string B], .string C]) ∧ Below W.heap.size W w') := fun W => by have := specSegHear_any o d p via W hdm hpm; rw [hR] at this; exact this
  clear hR
  have J : Hid ((w1.alloc (.cells #[.bool o, .string d] 25)).heap[w1.heap.size]? = some (.cells #[.bool o, .string d] 25)) := get_new rfl
  replace HB : Hid (Below w.heap.size w (w1.alloc (.cells #[.bool o, .string d] 25))) := HB.out.alloc HB.out.size _
  replace R0 : Hid (IsRow .u8 (w1.alloc (.cells #[.bool o, .string d] 25)) a0 l0 c0 z0) := IsRow.keep R0.out ((Below.refl _ _).alloc (Nat.le_refl _) _)
  go_wp2_with fail
  refine Calls.mono (HIM.out _) ?_
  rintro e w2 ⟨rfl, hb⟩
  replace J : Hid (w2.heap[w1.heap.size]? = some (.cells #[.bool o, .string d] 25)) := get_below hb J.out (size_of_get J.out)
  replace HB : Hid (Below w.heap.size w w2) := HB.out.trans (hb.mono HB.out.size)
  replace R0 : Hid (IsRow .u8 w2 a0 l0 c0 z0) := IsRow.keep R0.out hb
  clear hb
  replace J : Hid ((w2.alloc (.cells #[.bool A, .string B] 25)).heap[w1.heap.size]? = some (.cells #[.bool o, .string d] 25)) := get_alloc J.out (size_of_get J.out)
  have X : Hid ((w2.alloc (.cells #[.bool A, .string B] 25)).heap[w2.heap.size]? = some (.cells #[.bool A, .string B] 25)) := get_new rfl
  replace HB : Hid (Below w.heap.size w (w2.alloc (.cells #[.bool A, .string B] 25))) := HB.out.alloc HB.out.size _
  replace R0 : Hid (IsRow .u8 (w2.alloc (.cells #[.bool A, .string B] 25)) a0 l0 c0 z0) := IsRow.keep R0.out ((Below.refl _ _).alloc (Nat.le_refl _) _)
  obtain ⟨J_0, J_1⟩ := cells2_of J.out
  have hzJ := size_of_get J.out
  go_wp2_with fail
  clear J_0 J_1 hzJ
  generalize (w2.alloc (.cells #[.bool A, .string B] 25)) = wX at *
  refine Calls.mono (HSP.out _) ?_
  rintro e w3 ⟨rfl, hb⟩
  replace J : Hid (w3.heap[w1.heap.size]? = some (.cells #[.bool o, .string d] 25)) := get_below hb J.out (size_of_get J.out)
  replace X : Hid (w3.heap[w2.heap.size]? = some (.cells #[.bool A, .string B] 25)) := get_below hb X.out (size_of_get X.out)
  replace HB : Hid (Below w.heap.size w w3) := HB.out.trans (hb.mono HB.out.size)
  replace R0 : Hid (IsRow .u8 w3 a0 l0 c0 z0) := IsRow.keep R0.out hb
  clear hb
  replace J : Hid ((w3.alloc (.cells #[.bool A, .string B] 25)).heap[w1.heap.size]? = some (.cells #[.bool o, .string d] 25)) := get_alloc J.out (size_of_get J.out)
  replace X : Hid ((w3.alloc (.cells #[.bool A, .string B] 25)).heap[w2.heap.size]? = some (.cells #[.bool A, .string B] 25)) := get_alloc X.out (size_of_get X.out)
  have Y : Hid ((w3.alloc (.cells #[.bool A, .string B] 25)).heap[w3.heap.size]? = some (.cells #[.bool A, .string B] 25)) := get_new rfl
  replace HB : Hid (Below w.heap.size w (w3.alloc (.cells #[.bool A, .string B] 25))) := HB.out.alloc HB.out.size _
  replace R0 : Hid (IsRow .u8 (w3.alloc (.cells #[.bool A, .string B] 25)) a0 l0 c0 z0) := IsRow.keep R0.out ((Below.refl _ _).alloc (Nat.le_refl _) _)
  have hteq : (C.toList == C.toList) = true := by simp
  clear HIM HSP
  obtain ⟨J_0, J_1⟩ := cells2_of J.out
  have hzJ := size_of_get J.out
  obtain ⟨X_0, X_1⟩ := cells2_of X.out
  have hzX := size_of_get X.out
  go_wp2_with fail
  clear J_0 J_1 hzJ
  clear X_0 X_1 hzX
  generalize (w3.alloc (.cells #[.bool A, .string B] 25)) = wY at *
  obtain ⟨j, hj⟩ : ∃ j, j = jnOk o d := ⟨_, rfl⟩
  have HJ1 : Hid (∀ W, Calls Tryd.prog 25 #[.agg #[.bool o, .string d]] W fun e w' => e = .returned (.bool j) ∧ Below W.heap.size W w') := fun W => by rw [hj]; exact implJoinOk_any o d W hdm
  have HJ2 : Hid (∀ W, Calls Tryd.prog 26 #[.agg #[.bool o, .string d]] W fun e w' => e = .returned (.bool j) ∧ Below W.heap.size W w') := fun W => by rw [hj]; exact specJoinOk_any o d W hdm
  cases j with
  | false =>
    clear hOK hj
    obtain ⟨J_0, J_1⟩ := cells2_of J.out
    replace J_0 := Bl.cell J_0 (size_of_get J.out)
    replace J_1 := Bl.cell J_1 (size_of_get J.out)
    obtain ⟨X_0, X_1⟩ := cells2_of X.out
    replace X_0 := Bl.cell X_0 (size_of_get X.out)
    replace X_1 := Bl.cell X_1 (size_of_get X.out)
    obtain ⟨Y_0, Y_1⟩ := cells2_of Y.out
    replace Y_0 := Bl.cell Y_0 (size_of_get Y.out)
    replace Y_1 := Bl.cell Y_1 (size_of_get Y.out)
    refine wp_region_bl (by kernel_rfl) (by kernel_rfl) ?_
    repeat (go_big_quiet_step ((first | (go_at_call 24; exact calls_bl (skJoin_same A B _)) | (go_at_call 25; exact calls_bl (HJ1.out _)) | (go_at_call 26; exact calls_bl (HJ2.out _)))))
    refine wpQuiet_nil ?_
    intro w4 hw
    obtain ⟨⟨w4, hb⟩, rfl⟩ := hw
    clear J_0 J_1 X_0 X_1 Y_0 Y_1
    replace J : Hid (w4.heap[w1.heap.size]? = some (.cells #[.bool o, .string d] 25)) := get_below hb J.out (size_of_get J.out)
    replace X : Hid (w4.heap[w2.heap.size]? = some (.cells #[.bool A, .string B] 25)) := get_below hb X.out (size_of_get X.out)
    replace Y : Hid (w4.heap[w3.heap.size]? = some (.cells #[.bool A, .string B] 25)) := get_below hb Y.out (size_of_get Y.out)
    replace HB : Hid (Below w.heap.size w w4) := HB.out.trans (hb.mono HB.out.size)
    replace R0 : Hid (IsRow .u8 w4 a0 l0 c0 z0) := IsRow.keep R0.out hb
    clear hb
    obtain ⟨X_0, X_1⟩ := cells2_of X.out
    obtain ⟨Y_0, Y_1⟩ := cells2_of Y.out
    go_wp2_with fail
    clear X_0 X_1
    clear Y_0 Y_1
    refine (skJoin_same A B _).mono ?_
    rintro e w5 ⟨rfl, hb⟩
    replace J : Hid (w5.heap[w1.heap.size]? = some (.cells #[.bool o, .string d] 25)) := get_below hb J.out (size_of_get J.out)
    replace X : Hid (w5.heap[w2.heap.size]? = some (.cells #[.bool A, .string B] 25)) := get_below hb X.out (size_of_get X.out)
    replace Y : Hid (w5.heap[w3.heap.size]? = some (.cells #[.bool A, .string B] 25)) := get_below hb Y.out (size_of_get Y.out)
    replace HB : Hid (Below w.heap.size w w5) := HB.out.trans (hb.mono HB.out.size)
    replace R0 : Hid (IsRow .u8 w5 a0 l0 c0 z0) := IsRow.keep R0.out hb
    clear hb
    go_wp2_with fail
    go_ret
    exact ⟨rfl, HB.out⟩
  | true =>
    have HJK : Hid (jnOk o d = true) := hj.symm
    obtain ⟨hOA, hOC⟩ := hOK hj.symm
    have HOAK : Hid (jnOk A B = true) := hOA
    clear hj hOK hOA
    obtain ⟨J_0, J_1⟩ := cells2_of J.out
    replace J_0 := Bl.cell J_0 (size_of_get J.out)
    replace J_1 := Bl.cell J_1 (size_of_get J.out)
    obtain ⟨X_0, X_1⟩ := cells2_of X.out
    replace X_0 := Bl.cell X_0 (size_of_get X.out)
    replace X_1 := Bl.cell X_1 (size_of_get X.out)
    obtain ⟨Y_0, Y_1⟩ := cells2_of Y.out
    replace Y_0 := Bl.cell Y_0 (size_of_get Y.out)
    replace Y_1 := Bl.cell Y_1 (size_of_get Y.out)
    refine wp_region_bl (by kernel_rfl) (by kernel_rfl) ?_
    repeat (go_big_quiet_step ((first | (go_at_call 24; exact calls_bl (skJoin_same A B _)) | (go_at_call 25; exact calls_bl (HJ1.out _)) | (go_at_call 26; exact calls_bl (HJ2.out _)))))
    refine wpQuiet_nil ?_
    intro w4 hw
    obtain ⟨⟨w4, hb⟩, rfl⟩ := hw
    clear J_0 J_1 X_0 X_1 Y_0 Y_1
    replace J : Hid (w4.heap[w1.heap.size]? = some (.cells #[.bool o, .string d] 25)) := get_below hb J.out (size_of_get J.out)
    replace X : Hid (w4.heap[w2.heap.size]? = some (.cells #[.bool A, .string B] 25)) := get_below hb X.out (size_of_get X.out)
    replace Y : Hid (w4.heap[w3.heap.size]? = some (.cells #[.bool A, .string B] 25)) := get_below hb Y.out (size_of_get Y.out)
    replace HB : Hid (Below w.heap.size w w4) := HB.out.trans (hb.mono HB.out.size)
    replace R0 : Hid (IsRow .u8 w4 a0 l0 c0 z0) := IsRow.keep R0.out hb
    clear hb
    obtain ⟨b0, hb0'⟩ : ∃ x, x = byteAt p 0 := ⟨_, rfl⟩
    have hx0 : ∀ h : 0 < p.size, (p[0]'h).toNat = b0 := fun h => by rw [hb0']; exact byteAt_eq p 0 h
    have hlt : b0 < 256 := by rw [hb0']; exact byteAt_lt p 0
    have HOA : Hid (∀ W, Calls Tryd.prog 25 #[.agg #[.bool A, .string B]] W fun e w' => e = .returned (.bool true) ∧ Below W.heap.size W w') := fun W => by have := implJoinOk_any A B W (Nat.le_trans (jnOk_size HOAK.out) (by unfold maxLen; omega)); rw [HOAK.out] at this; exact this
    obtain ⟨v2, hv2⟩ : ∃ v : Int, v = (via + 1) % 64 := ⟨_, rfl⟩
    have hOC2 : (C.size : Int) ≤ 106 := by omega
    by_cases hm : 0 < p.size ∧ ((b0 % 64 : Nat) : Int) ≠ v2
    · obtain ⟨hm1, hm2⟩ := hm
      have hother := shV_other o d p v2 HJK.out (by rw [← hb0']; exact hm2)
      have HI2 : Hid (∀ W, Calls Tryd.prog 17 #[.agg #[.bool o, .string d], .string p, .int .i64 ((via + 1) % 64)] W fun e w' => e = .returned (.tuple #[.agg #[.bool o, .string d], .string ⟨#[]⟩]) ∧ Below W.heap.size W w') := fun W => by have := implSegHear_any o d p v2 W hdm hpm; rw [hother, hv2] at this; exact this
      have hpi : (0 : Int) < (p.size : Int) := by omega
      have hne : ((b0 : Int) % 64 != (via + 1) % 64) = true := by rw [bne_iff_ne, ← hv2]; simpa using hm2
      clear hother hm2 hb0' hv2
      obtain ⟨J_0, J_1⟩ := cells2_of J.out
      go_wp2_with fail
      clear J_0 J_1
      refine Calls.mono (HI2.out _) ?_
      rintro e w5 ⟨rfl, hb⟩
      replace J : Hid (w5.heap[w1.heap.size]? = some (.cells #[.bool o, .string d] 25)) := get_below hb J.out (size_of_get J.out)
      replace X : Hid (w5.heap[w2.heap.size]? = some (.cells #[.bool A, .string B] 25)) := get_below hb X.out (size_of_get X.out)
      replace Y : Hid (w5.heap[w3.heap.size]? = some (.cells #[.bool A, .string B] 25)) := get_below hb Y.out (size_of_get Y.out)
      replace HB : Hid (Below w.heap.size w w5) := HB.out.trans (hb.mono HB.out.size)
      replace R0 : Hid (IsRow .u8 w5 a0 l0 c0 z0) := IsRow.keep R0.out hb
      clear hb
      replace J : Hid ((w5.alloc (.cells #[.bool o, .string d] 25)).heap[w1.heap.size]? = some (.cells #[.bool o, .string d] 25)) := get_alloc J.out (size_of_get J.out)
      replace X : Hid ((w5.alloc (.cells #[.bool o, .string d] 25)).heap[w2.heap.size]? = some (.cells #[.bool A, .string B] 25)) := get_alloc X.out (size_of_get X.out)
      replace Y : Hid ((w5.alloc (.cells #[.bool o, .string d] 25)).heap[w3.heap.size]? = some (.cells #[.bool A, .string B] 25)) := get_alloc Y.out (size_of_get Y.out)
      have Z : Hid ((w5.alloc (.cells #[.bool o, .string d] 25)).heap[w5.heap.size]? = some (.cells #[.bool o, .string d] 25)) := get_new rfl
      replace HB : Hid (Below w.heap.size w (w5.alloc (.cells #[.bool o, .string d] 25))) := HB.out.alloc HB.out.size _
      replace R0 : Hid (IsRow .u8 (w5.alloc (.cells #[.bool o, .string d] 25)) a0 l0 c0 z0) := IsRow.keep R0.out ((Below.refl _ _).alloc (Nat.le_refl _) _)
      obtain ⟨J_0, J_1⟩ := cells2_of J.out
      have hzJ := size_of_get J.out
      obtain ⟨X_0, X_1⟩ := cells2_of X.out
      have hzX := size_of_get X.out
      go_wp2_with fail
      clear J_0 J_1 hzJ
      clear X_0 X_1 hzX
      refine (skJoin_same o d _).mono ?_
      rintro e w6 ⟨rfl, hb⟩
      replace J : Hid (w6.heap[w1.heap.size]? = some (.cells #[.bool o, .string d] 25)) := get_below hb J.out (size_of_get J.out)
      replace X : Hid (w6.heap[w2.heap.size]? = some (.cells #[.bool A, .string B] 25)) := get_below hb X.out (size_of_get X.out)
      replace Y : Hid (w6.heap[w3.heap.size]? = some (.cells #[.bool A, .string B] 25)) := get_below hb Y.out (size_of_get Y.out)
      replace Z : Hid (w6.heap[w5.heap.size]? = some (.cells #[.bool o, .string d] 25)) := get_below hb Z.out (size_of_get Z.out)
      replace HB : Hid (Below w.heap.size w w6) := HB.out.trans (hb.mono HB.out.size)
      replace R0 : Hid (IsRow .u8 w6 a0 l0 c0 z0) := IsRow.keep R0.out hb
      clear hb
      obtain ⟨X_0, X_1⟩ := cells2_of X.out
      go_wp2_with fail
      clear X_0 X_1
      refine Calls.mono (HOA.out _) ?_
      rintro e w7 ⟨rfl, hb⟩
      replace J : Hid (w7.heap[w1.heap.size]? = some (.cells #[.bool o, .string d] 25)) := get_below hb J.out (size_of_get J.out)
      replace X : Hid (w7.heap[w2.heap.size]? = some (.cells #[.bool A, .string B] 25)) := get_below hb X.out (size_of_get X.out)
      replace Y : Hid (w7.heap[w3.heap.size]? = some (.cells #[.bool A, .string B] 25)) := get_below hb Y.out (size_of_get Y.out)
      replace Z : Hid (w7.heap[w5.heap.size]? = some (.cells #[.bool o, .string d] 25)) := get_below hb Z.out (size_of_get Z.out)
      replace HB : Hid (Below w.heap.size w w7) := HB.out.trans (hb.mono HB.out.size)
      replace R0 : Hid (IsRow .u8 w7 a0 l0 c0 z0) := IsRow.keep R0.out hb
      clear hb
      go_wp2_with fail
      go_ret
      exact ⟨rfl, HB.out⟩
    · obtain ⟨A2, B2, C2, hR2⟩ : ∃ A2 B2 C2, shV o d p v2 = (A2, B2, C2) := ⟨_, _, _, rfl⟩
      have HI2 : Hid (∀ W, Calls Tryd.prog 17 #[.agg #[.bool o, .string d], .string p, .int .i64 ((via + 1) % 64)] W fun e w' => e = .returned (.tuple #[.agg #[.bool A2, .string B2], .string C2]) ∧ Below W.heap.size W w') := fun W => by have := implSegHear_any o d p v2 W hdm hpm; rw [hR2, hv2] at this; exact this
      clear hR2 hb0'
      by_cases hp0 : 0 < p.size
      · have hpi : (0 : Int) < (p.size : Int) := by omega
        have hne : ((b0 : Int) % 64 != (via + 1) % 64) = false := by
          rw [bne_eq_false_iff_eq, ← hv2]
          have := fun h => hm ⟨hp0, h⟩
          have h2 := Classical.not_not.1 this
          simpa using h2
        clear hm hv2
        obtain ⟨J_0, J_1⟩ := cells2_of J.out
        go_wp2_with fail
        clear J_0 J_1
        refine Calls.mono (HI2.out _) ?_
        rintro e w5 ⟨rfl, hb⟩
        replace J : Hid (w5.heap[w1.heap.size]? = some (.cells #[.bool o, .string d] 25)) := get_below hb J.out (size_of_get J.out)
        replace X : Hid (w5.heap[w2.heap.size]? = some (.cells #[.bool A, .string B] 25)) := get_below hb X.out (size_of_get X.out)
        replace Y : Hid (w5.heap[w3.heap.size]? = some (.cells #[.bool A, .string B] 25)) := get_below hb Y.out (size_of_get Y.out)
        replace HB : Hid (Below w.heap.size w w5) := HB.out.trans (hb.mono HB.out.size)
        replace R0 : Hid (IsRow .u8 w5 a0 l0 c0 z0) := IsRow.keep R0.out hb
        clear hb
        replace J : Hid ((w5.alloc (.cells #[.bool A2, .string B2] 25)).heap[w1.heap.size]? = some (.cells #[.bool o, .string d] 25)) := get_alloc J.out (size_of_get J.out)
        replace X : Hid ((w5.alloc (.cells #[.bool A2, .string B2] 25)).heap[w2.heap.size]? = some (.cells #[.bool A, .string B] 25)) := get_alloc X.out (size_of_get X.out)
        replace Y : Hid ((w5.alloc (.cells #[.bool A2, .string B2] 25)).heap[w3.heap.size]? = some (.cells #[.bool A, .string B] 25)) := get_alloc Y.out (size_of_get Y.out)
        have Z : Hid ((w5.alloc (.cells #[.bool A2, .string B2] 25)).heap[w5.heap.size]? = some (.cells #[.bool A2, .string B2] 25)) := get_new rfl
        replace HB : Hid (Below w.heap.size w (w5.alloc (.cells #[.bool A2, .string B2] 25))) := HB.out.alloc HB.out.size _
        replace R0 : Hid (IsRow .u8 (w5.alloc (.cells #[.bool A2, .string B2] 25)) a0 l0 c0 z0) := IsRow.keep R0.out ((Below.refl _ _).alloc (Nat.le_refl _) _)
        obtain ⟨J_0, J_1⟩ := cells2_of J.out
        have hzJ := size_of_get J.out
        obtain ⟨X_0, X_1⟩ := cells2_of X.out
        have hzX := size_of_get X.out
        go_wp2_with fail
        clear J_0 J_1 hzJ
        clear X_0 X_1 hzX
        refine Calls.mono (HOA.out _) ?_
        rintro e w6 ⟨rfl, hb⟩
        replace J : Hid (w6.heap[w1.heap.size]? = some (.cells #[.bool o, .string d] 25)) := get_below hb J.out (size_of_get J.out)
        replace X : Hid (w6.heap[w2.heap.size]? = some (.cells #[.bool A, .string B] 25)) := get_below hb X.out (size_of_get X.out)
        replace Y : Hid (w6.heap[w3.heap.size]? = some (.cells #[.bool A, .string B] 25)) := get_below hb Y.out (size_of_get Y.out)
        replace Z : Hid (w6.heap[w5.heap.size]? = some (.cells #[.bool A2, .string B2] 25)) := get_below hb Z.out (size_of_get Z.out)
        replace HB : Hid (Below w.heap.size w w6) := HB.out.trans (hb.mono HB.out.size)
        replace R0 : Hid (IsRow .u8 w6 a0 l0 c0 z0) := IsRow.keep R0.out hb
        clear hb
        go_wp2_with fail
        go_ret
        exact ⟨rfl, HB.out⟩
      · have hpi : decide ((0 : Int) < (p.size : Int)) = false := decide_eq_false (by omega)
        have hpi2 : ¬ (0 : Int) < (p.size : Int) := by omega
        clear hm hv2 hp0
        obtain ⟨J_0, J_1⟩ := cells2_of J.out
        go_wp2_with fail
        clear J_0 J_1
        refine Calls.mono (HI2.out _) ?_
        rintro e w5 ⟨rfl, hb⟩
        replace J : Hid (w5.heap[w1.heap.size]? = some (.cells #[.bool o, .string d] 25)) := get_below hb J.out (size_of_get J.out)
        replace X : Hid (w5.heap[w2.heap.size]? = some (.cells #[.bool A, .string B] 25)) := get_below hb X.out (size_of_get X.out)
        replace Y : Hid (w5.heap[w3.heap.size]? = some (.cells #[.bool A, .string B] 25)) := get_below hb Y.out (size_of_get Y.out)
        replace HB : Hid (Below w.heap.size w w5) := HB.out.trans (hb.mono HB.out.size)
        replace R0 : Hid (IsRow .u8 w5 a0 l0 c0 z0) := IsRow.keep R0.out hb
        clear hb
        replace J : Hid ((w5.alloc (.cells #[.bool A2, .string B2] 25)).heap[w1.heap.size]? = some (.cells #[.bool o, .string d] 25)) := get_alloc J.out (size_of_get J.out)
        replace X : Hid ((w5.alloc (.cells #[.bool A2, .string B2] 25)).heap[w2.heap.size]? = some (.cells #[.bool A, .string B] 25)) := get_alloc X.out (size_of_get X.out)
        replace Y : Hid ((w5.alloc (.cells #[.bool A2, .string B2] 25)).heap[w3.heap.size]? = some (.cells #[.bool A, .string B] 25)) := get_alloc Y.out (size_of_get Y.out)
        have Z : Hid ((w5.alloc (.cells #[.bool A2, .string B2] 25)).heap[w5.heap.size]? = some (.cells #[.bool A2, .string B2] 25)) := get_new rfl
        replace HB : Hid (Below w.heap.size w (w5.alloc (.cells #[.bool A2, .string B2] 25))) := HB.out.alloc HB.out.size _
        replace R0 : Hid (IsRow .u8 (w5.alloc (.cells #[.bool A2, .string B2] 25)) a0 l0 c0 z0) := IsRow.keep R0.out ((Below.refl _ _).alloc (Nat.le_refl _) _)
        obtain ⟨J_0, J_1⟩ := cells2_of J.out
        have hzJ := size_of_get J.out
        obtain ⟨X_0, X_1⟩ := cells2_of X.out
        have hzX := size_of_get X.out
        go_wp2_with fail
        clear J_0 J_1 hzJ
        clear X_0 X_1 hzX
        refine Calls.mono (HOA.out _) ?_
        rintro e w6 ⟨rfl, hb⟩
        replace J : Hid (w6.heap[w1.heap.size]? = some (.cells #[.bool o, .string d] 25)) := get_below hb J.out (size_of_get J.out)
        replace X : Hid (w6.heap[w2.heap.size]? = some (.cells #[.bool A, .string B] 25)) := get_below hb X.out (size_of_get X.out)
        replace Y : Hid (w6.heap[w3.heap.size]? = some (.cells #[.bool A, .string B] 25)) := get_below hb Y.out (size_of_get Y.out)
        replace Z : Hid (w6.heap[w5.heap.size]? = some (.cells #[.bool A2, .string B2] 25)) := get_below hb Z.out (size_of_get Z.out)
        replace HB : Hid (Below w.heap.size w w6) := HB.out.trans (hb.mono HB.out.size)
        replace R0 : Hid (IsRow .u8 w6 a0 l0 c0 z0) := IsRow.keep R0.out hb
        clear hb
        go_wp2_with fail
        go_ret
        exact ⟨rfl, HB.out⟩
theorem FnSegOther_g0 : Tryd.prog.globalNamed "bytes.ErrTooLarge" = some 0 := by kernel_rfl
theorem FnSegOther_t0 : (Tryd.prog.globals[0]?).map (·.type) = some 146 := by kernel_rfl
theorem FnSegOther_star : "*" ++ "errors.errorString" = "*errors.errorString" := by decide
theorem FnSegOther_rowP (u : TypeId) (h : Tryd.prog.typeName? 3 u = some "*errors.errorString") : u = 202 :=
  typeName_ptr_named (nm := "errors.errorString") (by rw [FnSegOther_star]; kernel_rfl) (by kernel_rfl) (by decide) u (by rw [FnSegOther_star]; exact h)
theorem FnSegOther_c1 : Tryd.prog.cellsOf 216 = 1 := by kernel_rfl
theorem FnSegOther_c2 : Tryd.prog.cellsOf 9 = 1 := by kernel_rfl
def FnSegOther_list : List (String × DataW Unit) := [("bytes.ErrTooLarge", Rows.laid_bytes_ErrTooLarge)]
theorem FnSegOther_met (os : Os) (args : Array Value) : laidMetH Tryd.prog FnSegOther_list ((World.doorLaid Tryd.prog 400 os).forCall (fun _ _ => 0) ⟨#[], args, []⟩).memory :=
  laidMetH_of_parts3 (fuel := 8) (laidMet_of_run' 8 (by kernel_rfl) (by kernel_rfl)) (by kernel_rfl) (by kernel_rfl)
theorem FnSegOther_var {W W' : World} {n : String} {cs : Array Value} (k : Below W.heap.size W W') (h : W.var? Tryd.prog n = some cs) : W'.var? Tryd.prog n = some cs := by
  unfold World.var? at h ⊢
  cases hg : Tryd.prog.globalNamed n with
  | none => simp [hg] at h
  | some g =>
    simp only [hg, Option.bind_some] at h ⊢
    have hlt : g < W.heap.size := by
      rcases Nat.lt_or_ge g W.heap.size with h' | h'
      · exact h'
      · simp [Array.getElem?_eq_none h'] at h
    rw [k.block g hlt]; exact h
theorem FnSegOther_of {W : World} (h : laidMetH Tryd.prog FnSegOther_list W) : ∃ x0 : Addr, W.var? Tryd.prog "bytes.ErrTooLarge" = some #[.iface 202 (.pointer (some x0))] := by
  rw [MakeChecks.laidMetH_plain _ _ _ (by kernel_rfl)] at h
  obtain ⟨x0, _, v0, _⟩ := laid_sentinel h FnSegOther_g0 FnSegOther_t0 Tryd.underlying146 FnSegOther_rowP Tryd.underlying202 Tryd.underlying216 rfl rfl Tryd.underlying9 FnSegOther_c1 FnSegOther_c2
  exact ⟨x0, v0⟩
theorem FnSegOther_own : ownKnob Tryd.prog.godebug = none := by kernel_rfl
theorem FnSegOther_laidOut : laidOutB Tryd.prog = true := by kernel_rfl
set_option maxRecDepth 100000 in
theorem FnSegOther_lifted (os : Os) (started : os.Started) (H : Type) (enc : TypeId × Value → H) :
    ReturnsInHanded {} Tryd.checked os 6 .any (fun w args => (Rows.fnSegOtherSpec.pre enc Tryd.prog Tryd.f6 [] false w args ∧ laidMetH Tryd.prog FnSegOther_list w) ∧ sizedMet enc Tryd.prog Tryd.f6 (OpenSpec.ofChange Rows.fnSegOtherSpec) false w args) (Rows.fnSegOtherSpec.post enc Tryd.prog Tryd.f6 false true false false) := by
  refine returnsInHanded_of_change_and (C := Tryd.checked) (X := fun w _ => laidMetH Tryd.prog FnSegOther_list w) (fun _ _ _ hh h => h.of_heap hh) FnSegOther_own started (by kernel_rfl) Tryd.func6
    (ChangeSpec.witness_shaped (enc := enc) (C := Tryd.checked) (os := os) (X := fun w _ => laidMetH Tryd.prog FnSegOther_list w) false (World.doorLaid Tryd.prog 400 os) #[.slice none 0 0] 8 rfl (World.shaped_of_RefB (by kernel_rfl) (by kernel_rfl)) (by kernel_rfl) (by kernel_rfl) (by kernel_rfl) (FnSegOther_met os _)) ?_
  intro W base args ds gs before hval0 hW hcnd _ hL _
  have hval : ∀ (j : Nat) t v, Tryd.f6.params[j]? = some t → args[j]? = some v → Value.okWide Tryd.prog W .any base t v := hval0
  have hW' := hW
  obtain ⟨p, q, hA0, hV0, rfl, hfz, hnd⟩ := hW
  have hV : DataW.TrodVars enc Tryd.prog W (fun _ => true) [] gs q := hV0
  obtain ⟨x0, hv0⟩ := FnSegOther_of hL
  have hA : DataW.TrodAll enc Tryd.prog W 0 (fun _ => true) true Tryd.f6.params.toList args.toList ds p := hA0
  rw [Tryd.params6] at hA hval
  obtain ⟨v0, vs0, d0, ds0, p0, q0, hargs, rfl, rfl, h0, r0⟩ := trodAll_cons hA
  obtain ⟨rfl, rfl, rfl⟩ := trodAll_nil r0
  obtain rfl : args = #[v0] := by cases args; simp_all
  obtain ⟨rfl, rfl⟩ := trodVars_none hV
  obtain ⟨a0, len0, cap0, rfl⟩ := okWide_slice Tryd.underlying31 (hval 0 31 v0 rfl rfl)
  have k0 := h0
  have lt0 : ∀ x ∈ p0, x.block < W.heap.size := by obtain ⟨m, hm⟩ := k0; exact DataW.trod_lt m _ _ _ hm
  obtain ⟨z0, w0⟩ : ∃ zs, IsRow .u8 W a0 len0 cap0 zs := by
    obtain ⟨fuel, hf⟩ := h0
    rcases open_ints Tryd.underlying31 Tryd.underlying5 (by kernel_rfl) hf with ⟨hcs, _⟩ | ⟨x, l, c, zs, hcs, _, hl, hm, hz, _, hcell, hwz⟩
    · simp [Value.cells] at hcs
      obtain ⟨rfl, rfl, rfl⟩ := hcs
      exact ⟨[], .inl ⟨rfl, rfl, rfl, rfl⟩⟩
    · simp [Value.cells] at hcs
      obtain ⟨rfl, rfl, rfl⟩ := hcs
      exact ⟨zs, .inr ⟨_, rfl, hl, hm, by simpa using hz, hcell, hwz⟩⟩
  clear hA0 hval0 hV0
  refine (FnSegOther_walk a0 len0 cap0 z0 W w0 ).mono fun e W' ⟨he, bel⟩ => ?_
  subst he
  exact ⟨_, rfl, _, _, _, [], _, _, hW', trodAll_mk1 (shut_bool Tryd.underlying4 _), (trodAll_cons_mk (Below.trod FnSegOther_laidOut (by kernel_rfl) (of_decide_eq_true (by kernel_rfl)) k0 bel lt0) trodAll_mk0), rfl, bel.frame _, fun h => by cases h⟩
theorem FnSegOther_holds : Rows.FnSegOtherSaid :=
  OpenClaim.holds_of_wide 6 Tryd.f6 rfl rfl rfl rfl rfl rfl rfl ⟨rfl, rfl, rfl, rfl, rfl⟩ rfl rfl rfl rfl rfl (by kernel_rfl) Tryd.func6 (by kernel_rfl)
    (of_decide_eq_true (by kernel_rfl)) (by unfold Func.isWrapper; first | (rw [if_pos (by decide +kernel)]; kernel_rfl) | (rw [if_neg (by decide +kernel)]; exact ⟨rfl, rfl⟩))
    (fun os started H enc _ => FnSegOther_lifted os started H enc)
theorem FnSegOther_card : Rows.FnSegOtherCardSaid :=
  Claim7.holds_tied_plain_at .later [] [.sentinel] true (true, "8ded78c3a1522848479ed86bc08d4540c0c61a2ee5cd9045808c16af5bb79141") false
    FnSegOther_holds (fun _ h => by cases h) (by kernel_rfl) (fun _ h => by cases h) fnSegOther_row_tie rfl ⟨rfl, rfl⟩ (by kernel_rfl) rfl
    (fun f fn hf hfn => by
      obtain rfl : f = 6 := Option.some.inj ((show Tryd.prog.funcNamed "loop.example/skyway/laws.FnSegOther" = some 6 by kernel_rfl).symm.trans hf) |>.symm
      obtain rfl : fn = Tryd.f6 := (Option.some.inj (Tryd.func6.symm.trans hfn)).symm
      exact ⟨by kernel_rfl, fun j t ht => by
        rw [Tryd.params6] at ht
        have hm : t ∈ ([31] : List TypeId) := by simpa using Array.mem_of_getElem? ht
        have hall : (([31] : List TypeId).all fun u => !Tryd.prog.wantsStandIn u) = true := by kernel_rfl
        exact (show Tryd.prog.wantsStandIn t = false by simpa using List.all_eq_true.1 hall t hm)⟩)
    (by kernel_rfl)
#print axioms FnSegOther_card
end Go.Proofs.YtgejiiaocgacmaaDoor
