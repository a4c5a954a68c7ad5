/- Proved: laws.FnDownBack returns true at every two slices of bytes (a frame down is read back), and leaves them as they were, as a tied card: the two errors of impl hold what the program's text lays in them. No other condition. -/
import Derived.Test.YtccpdadabndleaaDoorDpDg
import Derived.Test.YtccpdadabndleaaDoorDgS
import Derived.Test.YtccpdadabndleaaDoorCards
import Derived.Test.YtccpdadabndleaaDoorTie
import Derived.LaidMore
import Derived.Stop.LaidErr
import Derived.Stop.Joined
import Derived.Stop.ErrReads
import Derived.SevenTiedAt
import Derived.OpenShut
import Derived.ShutString
namespace Go.Proofs.YtccpdadabndleaaDoor
open Go.ChangeShapes Go.WideShapes Go.ChangeAt Go.RowKit
open Go.ChangeMaps (open_string shut_string)
set_option linter.unusedVariables false
theorem dn_back {cr wh al ow fi : Int} {d f s : ByteArray} (h : dnOk cr wh al ow fi d f = true) (hs : s = dnPut cr wh al ow fi d f) : dgOk s = true ∧ dgV s = .agg #[.int .i64 cr, .int .i64 wh, .int .i64 al, .int .i64 ow, .int .i64 fi, .string d, .string f] ∧ s.size = 40 := by
  obtain ⟨r1, r2, r3, r4, r5, r6, r7⟩ := dn_read h hs
  obtain ⟨_, _, p2, p3, p4, p5, _, _, _, _, p10, p11, _⟩ := dnOk_all h
  have e1 : (gt s 0 2 : Int) / 16 % 1024 = cr := by omega
  have e2 : (gt s 0 2 : Int) / 2 % 8 = wh := by omega
  have e3 : (gt s 4 2 : Int) % 2048 = fi := by omega
  have hg : dgOk s = true := by
    simp only [dgOk, Bool.and_eq_true, decide_eq_true_eq]
    refine ⟨r1, ?_⟩
    unfold dgPut
    rw [e1, e2, e3, r3, r4, r6, r7]; exact hs.symm
  refine ⟨hg, ?_, r1⟩
  unfold dgV; rw [if_pos hg, e1, e2, e3, r3, r4, r6, r7]
set_option maxRecDepth 100000 in
set_option maxHeartbeats 4000000 in
theorem FnDownBack_walk (a0 : Option Addr) (l0 c0 : Nat) (z0 : List Int) (a1 : Option Addr) (l1 c1 : Nat) (z1 : List Int) (w : World) (h0 : IsRow .u8 w a0 l0 c0 z0) (h1 : IsRow .u8 w a1 l1 c1 z1) (he : Errs w) :
    Calls Tryd.prog 12 #[.slice a0 l0 c0, .slice a1 l1 c1] w fun e w' => e = .returned (.bool true) ∧ Below w.heap.size w w' := by
  by_cases hb0 : 1048576 < (l0 : Int)
  · go_enter Tryd.func12, Tryd.ntmps12
    go_wp2_with fail
    go_ret
    exact ⟨rfl, Below.refl _ _⟩
  by_cases hb1 : 1048576 < (l1 : Int)
  · go_enter Tryd.func12, Tryd.ntmps12
    go_wp2_with fail
    go_ret
    exact ⟨rfl, Below.refl _ _⟩
  have R0 : Hid _ := h0
  have R1 : Hid _ := h1
  have HE : Hid (Errs w) := he
  have HB : Hid (Below w.heap.size w w) := Below.refl _ _
  clear h0 h1 he
  go_enter Tryd.func12, Tryd.ntmps12
  go_wp2_with fail
  refine (DrawDownPut_any a0 l0 c0 z0 _ R0.out).mono ?_
  rintro e w1 ⟨cr, wh, al, ow, fi, d, f, hdz, hfz, rfl, hb⟩
  replace HB : Hid (Below w.heap.size w w1) := HB.out.trans (hb.mono HB.out.size)
  replace HE : Hid (Errs w1) := HE.out.below hb
  replace R0 : Hid (IsRow .u8 w1 a0 l0 c0 z0) := IsRow.keep R0.out hb
  replace R1 : Hid (IsRow .u8 w1 a1 l1 c1 z1) := IsRow.keep R1.out hb
  clear hb
  have hdm : d.size ≤ maxLen := by unfold maxLen; omega
  have hfm : f.size ≤ maxLen := by unfold maxLen; omega
  have F : Hid ((w1.alloc (.cells #[.int .i64 cr, .int .i64 wh, .int .i64 al, .int .i64 ow, .int .i64 fi, .string d, .string f] 54)).heap[w1.heap.size]? = some (.cells #[.int .i64 cr, .int .i64 wh, .int .i64 al, .int .i64 ow, .int .i64 fi, .string d, .string f] 54)) := get_new rfl
  replace HB : Hid (Below w.heap.size w (w1.alloc (.cells #[.int .i64 cr, .int .i64 wh, .int .i64 al, .int .i64 ow, .int .i64 fi, .string d, .string f] 54))) := HB.out.alloc HB.out.size _
  replace HE : Hid (Errs (w1.alloc (.cells #[.int .i64 cr, .int .i64 wh, .int .i64 al, .int .i64 ow, .int .i64 fi, .string d, .string f] 54))) := HE.out.below ((Below.refl _ _).alloc (Nat.le_refl _) _)
  replace R0 : Hid (IsRow .u8 (w1.alloc (.cells #[.int .i64 cr, .int .i64 wh, .int .i64 al, .int .i64 ow, .int .i64 fi, .string d, .string f] 54)) a0 l0 c0 z0) := IsRow.keep R0.out ((Below.refl _ _).alloc (Nat.le_refl _) _)
  replace R1 : Hid (IsRow .u8 (w1.alloc (.cells #[.int .i64 cr, .int .i64 wh, .int .i64 al, .int .i64 ow, .int .i64 fi, .string d, .string f] 54)) a1 l1 c1 z1) := IsRow.keep R1.out ((Below.refl _ _).alloc (Nat.le_refl _) _)
  go_wp2_with fail
  refine (implDownPut_any cr wh al ow fi d f _ hdm hfm HE.out).mono ?_
  rintro e w2 ⟨rfl, hb⟩
  replace F : Hid (w2.heap[w1.heap.size]? = some (.cells #[.int .i64 cr, .int .i64 wh, .int .i64 al, .int .i64 ow, .int .i64 fi, .string d, .string f] 54)) := get_below hb F.out (size_of_get F.out)
  replace HB : Hid (Below w.heap.size w w2) := HB.out.trans (hb.mono HB.out.size)
  replace HE : Hid (Errs w2) := HE.out.below hb
  replace R0 : Hid (IsRow .u8 w2 a0 l0 c0 z0) := IsRow.keep R0.out hb
  replace R1 : Hid (IsRow .u8 w2 a1 l1 c1 z1) := IsRow.keep R1.out hb
  clear hb
  have HSP : Hid (∀ W, Calls Tryd.prog 37 #[.agg #[.int .i64 cr, .int .i64 wh, .int .i64 al, .int .i64 ow, .int .i64 fi, .string d, .string f]] W fun e w' => e = .returned (.string (dnPut cr wh al ow fi d f)) ∧ Below W.heap.size W w') := fun W => specDownPut_any cr wh al ow fi d f W hdm hfm
  cases hb : dnOk cr wh al ow fi d f with
  | false =>
    have hem : dnPut cr wh al ow fi d f = ⟨#[]⟩ := by unfold dnPut; rw [hb]; rfl
    rw [hem] at HSP ⊢
    have hz : dgOk ⟨#[]⟩ = false := rfl
    have HG1 : Hid (∀ W, Errs W → Calls Tryd.prog 41 #[.string ⟨#[]⟩] W fun e w' => e = .returned (.tuple #[.agg #[.int .i64 0, .int .i64 0, .int .i64 0, .int .i64 0, .int .i64 0, .string ⟨#[]⟩, .string ⟨#[]⟩], .bool false]) ∧ Below W.heap.size W w') := fun W he => by have := implDownGet_any ⟨#[]⟩ W (by decide) he; rw [dgV_no hz, hz] at this; exact this
    clear hb hem hz
    go_wp2_with fail
    refine Calls.mono (HG1.out _ HE.out) ?_
    rintro e w3 ⟨rfl, hb⟩
    replace F : Hid (w3.heap[w1.heap.size]? = some (.cells #[.int .i64 cr, .int .i64 wh, .int .i64 al, .int .i64 ow, .int .i64 fi, .string d, .string f] 54)) := get_below hb F.out (size_of_get F.out)
    replace HB : Hid (Below w.heap.size w w3) := HB.out.trans (hb.mono HB.out.size)
    replace HE : Hid (Errs w3) := HE.out.below hb
    replace R0 : Hid (IsRow .u8 w3 a0 l0 c0 z0) := IsRow.keep R0.out hb
    replace R1 : Hid (IsRow .u8 w3 a1 l1 c1 z1) := IsRow.keep R1.out hb
    clear hb
    replace F : Hid ((w3.alloc (.cells #[.int .i64 0, .int .i64 0, .int .i64 0, .int .i64 0, .int .i64 0, .string ⟨#[]⟩, .string ⟨#[]⟩] 54)).heap[w1.heap.size]? = some (.cells #[.int .i64 cr, .int .i64 wh, .int .i64 al, .int .i64 ow, .int .i64 fi, .string d, .string f] 54)) := get_alloc F.out (size_of_get F.out)
    have X : Hid ((w3.alloc (.cells #[.int .i64 0, .int .i64 0, .int .i64 0, .int .i64 0, .int .i64 0, .string ⟨#[]⟩, .string ⟨#[]⟩] 54)).heap[w3.heap.size]? = some (.cells #[.int .i64 0, .int .i64 0, .int .i64 0, .int .i64 0, .int .i64 0, .string ⟨#[]⟩, .string ⟨#[]⟩] 54)) := get_new rfl
    replace HB : Hid (Below w.heap.size w (w3.alloc (.cells #[.int .i64 0, .int .i64 0, .int .i64 0, .int .i64 0, .int .i64 0, .string ⟨#[]⟩, .string ⟨#[]⟩] 54))) := HB.out.alloc HB.out.size _
    replace HE : Hid (Errs (w3.alloc (.cells #[.int .i64 0, .int .i64 0, .int .i64 0, .int .i64 0, .int .i64 0, .string ⟨#[]⟩, .string ⟨#[]⟩] 54))) := HE.out.below ((Below.refl _ _).alloc (Nat.le_refl _) _)
    replace R0 : Hid (IsRow .u8 (w3.alloc (.cells #[.int .i64 0, .int .i64 0, .int .i64 0, .int .i64 0, .int .i64 0, .string ⟨#[]⟩, .string ⟨#[]⟩] 54)) a0 l0 c0 z0) := IsRow.keep R0.out ((Below.refl _ _).alloc (Nat.le_refl _) _)
    replace R1 : Hid (IsRow .u8 (w3.alloc (.cells #[.int .i64 0, .int .i64 0, .int .i64 0, .int .i64 0, .int .i64 0, .string ⟨#[]⟩, .string ⟨#[]⟩] 54)) a1 l1 c1 z1) := IsRow.keep R1.out ((Below.refl _ _).alloc (Nat.le_refl _) _)
    obtain ⟨F_0, F_1, F_2, F_3, F_4, F_5, F_6⟩ := cells7_of F.out
    go_wp2_with fail
    clear F_0 F_1 F_2 F_3 F_4 F_5 F_6
    refine Calls.mono (HSP.out _) ?_
    rintro e w4 ⟨rfl, hb⟩
    replace F : Hid (w4.heap[w1.heap.size]? = some (.cells #[.int .i64 cr, .int .i64 wh, .int .i64 al, .int .i64 ow, .int .i64 fi, .string d, .string f] 54)) := get_below hb F.out (size_of_get F.out)
    replace X : Hid (w4.heap[w3.heap.size]? = some (.cells #[.int .i64 0, .int .i64 0, .int .i64 0, .int .i64 0, .int .i64 0, .string ⟨#[]⟩, .string ⟨#[]⟩] 54)) := get_below hb X.out (size_of_get X.out)
    replace HB : Hid (Below w.heap.size w w4) := HB.out.trans (hb.mono HB.out.size)
    replace HE : Hid (Errs w4) := HE.out.below hb
    replace R0 : Hid (IsRow .u8 w4 a0 l0 c0 z0) := IsRow.keep R0.out hb
    replace R1 : Hid (IsRow .u8 w4 a1 l1 c1 z1) := IsRow.keep R1.out hb
    clear hb
    clear HSP HG1
    obtain ⟨F_0, F_1, F_2, F_3, F_4, F_5, F_6⟩ := cells7_of F.out
    obtain ⟨X_0, X_1, X_2, X_3, X_4, X_5, X_6⟩ := cells7_of X.out
    go_wp2_with fail
    clear F_0 F_1 F_2 F_3 F_4 F_5 F_6
    clear X_0 X_1 X_2 X_3 X_4 X_5 X_6
    refine (DrawDownGet_any a1 l1 c1 z1 _ R1.out).mono ?_
    rintro e w5 ⟨s, hs, rfl, hb⟩
    replace F : Hid (w5.heap[w1.heap.size]? = some (.cells #[.int .i64 cr, .int .i64 wh, .int .i64 al, .int .i64 ow, .int .i64 fi, .string d, .string f] 54)) := get_below hb F.out (size_of_get F.out)
    replace X : Hid (w5.heap[w3.heap.size]? = some (.cells #[.int .i64 0, .int .i64 0, .int .i64 0, .int .i64 0, .int .i64 0, .string ⟨#[]⟩, .string ⟨#[]⟩] 54)) := get_below hb X.out (size_of_get X.out)
    replace HB : Hid (Below w.heap.size w w5) := HB.out.trans (hb.mono HB.out.size)
    replace HE : Hid (Errs w5) := HE.out.below hb
    replace R0 : Hid (IsRow .u8 w5 a0 l0 c0 z0) := IsRow.keep R0.out hb
    replace R1 : Hid (IsRow .u8 w5 a1 l1 c1 z1) := IsRow.keep R1.out hb
    clear hb
    cases hok : dgOk s with
    | false =>
      have v1 := dgV_no hok
      have HI2 : Hid (∀ W, Errs W → Calls Tryd.prog 41 #[.string s] W fun e w' => e = .returned (.tuple #[.agg #[.int .i64 0, .int .i64 0, .int .i64 0, .int .i64 0, .int .i64 0, .string ⟨#[]⟩, .string ⟨#[]⟩], .bool false]) ∧ Below W.heap.size W w') := fun W he => by have := implDownGet_any s W (by unfold maxLen; omega) he; rw [v1, hok] at this; exact this
      have HS2 : Hid (∀ W, Calls Tryd.prog 40 #[.string s] W fun e w' => e = .returned (.tuple #[.agg #[.int .i64 0, .int .i64 0, .int .i64 0, .int .i64 0, .int .i64 0, .string ⟨#[]⟩, .string ⟨#[]⟩], .bool false]) ∧ Below W.heap.size W w') := fun W => by have := specDownGet_any s W; rw [v1, hok] at this; exact this
      clear v1 hok
      go_wp2_with fail
      refine Calls.mono (HI2.out _ HE.out) ?_
      rintro e w6 ⟨rfl, hb⟩
      replace F : Hid (w6.heap[w1.heap.size]? = some (.cells #[.int .i64 cr, .int .i64 wh, .int .i64 al, .int .i64 ow, .int .i64 fi, .string d, .string f] 54)) := get_below hb F.out (size_of_get F.out)
      replace X : Hid (w6.heap[w3.heap.size]? = some (.cells #[.int .i64 0, .int .i64 0, .int .i64 0, .int .i64 0, .int .i64 0, .string ⟨#[]⟩, .string ⟨#[]⟩] 54)) := get_below hb X.out (size_of_get X.out)
      replace HB : Hid (Below w.heap.size w w6) := HB.out.trans (hb.mono HB.out.size)
      replace HE : Hid (Errs w6) := HE.out.below hb
      replace R0 : Hid (IsRow .u8 w6 a0 l0 c0 z0) := IsRow.keep R0.out hb
      replace R1 : Hid (IsRow .u8 w6 a1 l1 c1 z1) := IsRow.keep R1.out hb
      clear hb
      replace F : Hid ((w6.alloc (.cells #[.int .i64 0, .int .i64 0, .int .i64 0, .int .i64 0, .int .i64 0, .string ⟨#[]⟩, .string ⟨#[]⟩] 54)).heap[w1.heap.size]? = some (.cells #[.int .i64 cr, .int .i64 wh, .int .i64 al, .int .i64 ow, .int .i64 fi, .string d, .string f] 54)) := get_alloc F.out (size_of_get F.out)
      replace X : Hid ((w6.alloc (.cells #[.int .i64 0, .int .i64 0, .int .i64 0, .int .i64 0, .int .i64 0, .string ⟨#[]⟩, .string ⟨#[]⟩] 54)).heap[w3.heap.size]? = some (.cells #[.int .i64 0, .int .i64 0, .int .i64 0, .int .i64 0, .int .i64 0, .string ⟨#[]⟩, .string ⟨#[]⟩] 54)) := get_alloc X.out (size_of_get X.out)
      have Y : Hid ((w6.alloc (.cells #[.int .i64 0, .int .i64 0, .int .i64 0, .int .i64 0, .int .i64 0, .string ⟨#[]⟩, .string ⟨#[]⟩] 54)).heap[w6.heap.size]? = some (.cells #[.int .i64 0, .int .i64 0, .int .i64 0, .int .i64 0, .int .i64 0, .string ⟨#[]⟩, .string ⟨#[]⟩] 54)) := get_new rfl
      replace HB : Hid (Below w.heap.size w (w6.alloc (.cells #[.int .i64 0, .int .i64 0, .int .i64 0, .int .i64 0, .int .i64 0, .string ⟨#[]⟩, .string ⟨#[]⟩] 54))) := HB.out.alloc HB.out.size _
      replace HE : Hid (Errs (w6.alloc (.cells #[.int .i64 0, .int .i64 0, .int .i64 0, .int .i64 0, .int .i64 0, .string ⟨#[]⟩, .string ⟨#[]⟩] 54))) := HE.out.below ((Below.refl _ _).alloc (Nat.le_refl _) _)
      replace R0 : Hid (IsRow .u8 (w6.alloc (.cells #[.int .i64 0, .int .i64 0, .int .i64 0, .int .i64 0, .int .i64 0, .string ⟨#[]⟩, .string ⟨#[]⟩] 54)) a0 l0 c0 z0) := IsRow.keep R0.out ((Below.refl _ _).alloc (Nat.le_refl _) _)
      replace R1 : Hid (IsRow .u8 (w6.alloc (.cells #[.int .i64 0, .int .i64 0, .int .i64 0, .int .i64 0, .int .i64 0, .string ⟨#[]⟩, .string ⟨#[]⟩] 54)) a1 l1 c1 z1) := IsRow.keep R1.out ((Below.refl _ _).alloc (Nat.le_refl _) _)
      go_wp2_with fail
      refine Calls.mono (HS2.out _) ?_
      rintro e w7 ⟨rfl, hb⟩
      replace F : Hid (w7.heap[w1.heap.size]? = some (.cells #[.int .i64 cr, .int .i64 wh, .int .i64 al, .int .i64 ow, .int .i64 fi, .string d, .string f] 54)) := get_below hb F.out (size_of_get F.out)
      replace X : Hid (w7.heap[w3.heap.size]? = some (.cells #[.int .i64 0, .int .i64 0, .int .i64 0, .int .i64 0, .int .i64 0, .string ⟨#[]⟩, .string ⟨#[]⟩] 54)) := get_below hb X.out (size_of_get X.out)
      replace Y : Hid (w7.heap[w6.heap.size]? = some (.cells #[.int .i64 0, .int .i64 0, .int .i64 0, .int .i64 0, .int .i64 0, .string ⟨#[]⟩, .string ⟨#[]⟩] 54)) := get_below hb Y.out (size_of_get Y.out)
      replace HB : Hid (Below w.heap.size w w7) := HB.out.trans (hb.mono HB.out.size)
      replace HE : Hid (Errs w7) := HE.out.below hb
      replace R0 : Hid (IsRow .u8 w7 a0 l0 c0 z0) := IsRow.keep R0.out hb
      replace R1 : Hid (IsRow .u8 w7 a1 l1 c1 z1) := IsRow.keep R1.out hb
      clear hb
      replace F : Hid ((w7.alloc (.cells #[.int .i64 0, .int .i64 0, .int .i64 0, .int .i64 0, .int .i64 0, .string ⟨#[]⟩, .string ⟨#[]⟩] 54)).heap[w1.heap.size]? = some (.cells #[.int .i64 cr, .int .i64 wh, .int .i64 al, .int .i64 ow, .int .i64 fi, .string d, .string f] 54)) := get_alloc F.out (size_of_get F.out)
      replace X : Hid ((w7.alloc (.cells #[.int .i64 0, .int .i64 0, .int .i64 0, .int .i64 0, .int .i64 0, .string ⟨#[]⟩, .string ⟨#[]⟩] 54)).heap[w3.heap.size]? = some (.cells #[.int .i64 0, .int .i64 0, .int .i64 0, .int .i64 0, .int .i64 0, .string ⟨#[]⟩, .string ⟨#[]⟩] 54)) := get_alloc X.out (size_of_get X.out)
      replace Y : Hid ((w7.alloc (.cells #[.int .i64 0, .int .i64 0, .int .i64 0, .int .i64 0, .int .i64 0, .string ⟨#[]⟩, .string ⟨#[]⟩] 54)).heap[w6.heap.size]? = some (.cells #[.int .i64 0, .int .i64 0, .int .i64 0, .int .i64 0, .int .i64 0, .string ⟨#[]⟩, .string ⟨#[]⟩] 54)) := get_alloc Y.out (size_of_get Y.out)
      have Z : Hid ((w7.alloc (.cells #[.int .i64 0, .int .i64 0, .int .i64 0, .int .i64 0, .int .i64 0, .string ⟨#[]⟩, .string ⟨#[]⟩] 54)).heap[w7.heap.size]? = some (.cells #[.int .i64 0, .int .i64 0, .int .i64 0, .int .i64 0, .int .i64 0, .string ⟨#[]⟩, .string ⟨#[]⟩] 54)) := get_new rfl
      replace HB : Hid (Below w.heap.size w (w7.alloc (.cells #[.int .i64 0, .int .i64 0, .int .i64 0, .int .i64 0, .int .i64 0, .string ⟨#[]⟩, .string ⟨#[]⟩] 54))) := HB.out.alloc HB.out.size _
      replace HE : Hid (Errs (w7.alloc (.cells #[.int .i64 0, .int .i64 0, .int .i64 0, .int .i64 0, .int .i64 0, .string ⟨#[]⟩, .string ⟨#[]⟩] 54))) := HE.out.below ((Below.refl _ _).alloc (Nat.le_refl _) _)
      replace R0 : Hid (IsRow .u8 (w7.alloc (.cells #[.int .i64 0, .int .i64 0, .int .i64 0, .int .i64 0, .int .i64 0, .string ⟨#[]⟩, .string ⟨#[]⟩] 54)) a0 l0 c0 z0) := IsRow.keep R0.out ((Below.refl _ _).alloc (Nat.le_refl _) _)
      replace R1 : Hid (IsRow .u8 (w7.alloc (.cells #[.int .i64 0, .int .i64 0, .int .i64 0, .int .i64 0, .int .i64 0, .string ⟨#[]⟩, .string ⟨#[]⟩] 54)) a1 l1 c1 z1) := IsRow.keep R1.out ((Below.refl _ _).alloc (Nat.le_refl _) _)
      clear HI2 HS2
      obtain ⟨Y_0, Y_1, Y_2, Y_3, Y_4, Y_5, Y_6⟩ := cells7_of Y.out
      obtain ⟨Z_0, Z_1, Z_2, Z_3, Z_4, Z_5, Z_6⟩ := cells7_of Z.out
      go_wp2_with fail
      clear Y_0 Y_1 Y_2 Y_3 Y_4 Y_5 Y_6
      clear Z_0 Z_1 Z_2 Z_3 Z_4 Z_5 Z_6
      go_ret
      exact ⟨rfl, HB.out⟩
    | true =>
      have v1 : dgV s = .agg #[.int .i64 ((gt s 0 2 : Int) / 16 % 1024), .int .i64 ((gt s 0 2 : Int) / 2 % 8), .int .i64 (byteAt s 2 : Nat), .int .i64 (byteAt s 3 : Nat), .int .i64 ((gt s 4 2 : Int) % 2048), .string (s.extract 6 34), .string (s.extract 34 38)] := by unfold dgV; rw [if_pos hok]
      have hput : dgPut s = s := by simp only [dgOk, Bool.and_eq_true, decide_eq_true_eq] at hok; exact hok.2
      unfold dgPut at hput
      have hd2 : (s.extract 6 34).size ≤ maxLen := by rw [ByteArray.size_extract]; unfold maxLen; omega
      have hf2 : (s.extract 34 38).size ≤ maxLen := by rw [ByteArray.size_extract]; unfold maxLen; omega
      generalize (gt s 0 2 : Int) / 16 % 1024 = cr2 at *
      generalize (gt s 0 2 : Int) / 2 % 8 = wh2 at *
      generalize ((byteAt s 2 : Nat) : Int) = al2 at *
      generalize ((byteAt s 3 : Nat) : Int) = ow2 at *
      generalize (gt s 4 2 : Int) % 2048 = fi2 at *
      generalize s.extract 6 34 = d2 at *
      generalize s.extract 34 38 = f2 at *
      have HPP : Hid (∀ W, Errs W → Calls Tryd.prog 39 #[.agg #[.int .i64 cr2, .int .i64 wh2, .int .i64 al2, .int .i64 ow2, .int .i64 fi2, .string d2, .string f2]] W fun e w' => e = .returned (.string s) ∧ Below W.heap.size W w') := fun W he => by have := implDownPut_any cr2 wh2 al2 ow2 fi2 d2 f2 W hd2 hf2 he; rw [hput] at this; exact this
      have HI2 : Hid (∀ W, Errs W → Calls Tryd.prog 41 #[.string s] W fun e w' => e = .returned (.tuple #[.agg #[.int .i64 cr2, .int .i64 wh2, .int .i64 al2, .int .i64 ow2, .int .i64 fi2, .string d2, .string f2], .bool true]) ∧ Below W.heap.size W w') := fun W he => by have := implDownGet_any s W (by unfold maxLen; omega) he; rw [v1, hok] at this; exact this
      have HS2 : Hid (∀ W, Calls Tryd.prog 40 #[.string s] W fun e w' => e = .returned (.tuple #[.agg #[.int .i64 cr2, .int .i64 wh2, .int .i64 al2, .int .i64 ow2, .int .i64 fi2, .string d2, .string f2], .bool true]) ∧ Below W.heap.size W w') := fun W => by have := specDownGet_any s W; rw [v1, hok] at this; exact this
      clear hput hd2 hf2
      have hxx : (s.toList == s.toList) = true := by simp
      clear v1 hok
      go_wp2_with fail
      refine Calls.mono (HI2.out _ HE.out) ?_
      rintro e w6 ⟨rfl, hb⟩
      replace F : Hid (w6.heap[w1.heap.size]? = some (.cells #[.int .i64 cr, .int .i64 wh, .int .i64 al, .int .i64 ow, .int .i64 fi, .string d, .string f] 54)) := get_below hb F.out (size_of_get F.out)
      replace X : Hid (w6.heap[w3.heap.size]? = some (.cells #[.int .i64 0, .int .i64 0, .int .i64 0, .int .i64 0, .int .i64 0, .string ⟨#[]⟩, .string ⟨#[]⟩] 54)) := get_below hb X.out (size_of_get X.out)
      replace HB : Hid (Below w.heap.size w w6) := HB.out.trans (hb.mono HB.out.size)
      replace HE : Hid (Errs w6) := HE.out.below hb
      replace R0 : Hid (IsRow .u8 w6 a0 l0 c0 z0) := IsRow.keep R0.out hb
      replace R1 : Hid (IsRow .u8 w6 a1 l1 c1 z1) := IsRow.keep R1.out hb
      clear hb
      replace F : Hid ((w6.alloc (.cells #[.int .i64 cr2, .int .i64 wh2, .int .i64 al2, .int .i64 ow2, .int .i64 fi2, .string d2, .string f2] 54)).heap[w1.heap.size]? = some (.cells #[.int .i64 cr, .int .i64 wh, .int .i64 al, .int .i64 ow, .int .i64 fi, .string d, .string f] 54)) := get_alloc F.out (size_of_get F.out)
      replace X : Hid ((w6.alloc (.cells #[.int .i64 cr2, .int .i64 wh2, .int .i64 al2, .int .i64 ow2, .int .i64 fi2, .string d2, .string f2] 54)).heap[w3.heap.size]? = some (.cells #[.int .i64 0, .int .i64 0, .int .i64 0, .int .i64 0, .int .i64 0, .string ⟨#[]⟩, .string ⟨#[]⟩] 54)) := get_alloc X.out (size_of_get X.out)
      have Y : Hid ((w6.alloc (.cells #[.int .i64 cr2, .int .i64 wh2, .int .i64 al2, .int .i64 ow2, .int .i64 fi2, .string d2, .string f2] 54)).heap[w6.heap.size]? = some (.cells #[.int .i64 cr2, .int .i64 wh2, .int .i64 al2, .int .i64 ow2, .int .i64 fi2, .string d2, .string f2] 54)) := get_new rfl
      replace HB : Hid (Below w.heap.size w (w6.alloc (.cells #[.int .i64 cr2, .int .i64 wh2, .int .i64 al2, .int .i64 ow2, .int .i64 fi2, .string d2, .string f2] 54))) := HB.out.alloc HB.out.size _
      replace HE : Hid (Errs (w6.alloc (.cells #[.int .i64 cr2, .int .i64 wh2, .int .i64 al2, .int .i64 ow2, .int .i64 fi2, .string d2, .string f2] 54))) := HE.out.below ((Below.refl _ _).alloc (Nat.le_refl _) _)
      replace R0 : Hid (IsRow .u8 (w6.alloc (.cells #[.int .i64 cr2, .int .i64 wh2, .int .i64 al2, .int .i64 ow2, .int .i64 fi2, .string d2, .string f2] 54)) a0 l0 c0 z0) := IsRow.keep R0.out ((Below.refl _ _).alloc (Nat.le_refl _) _)
      replace R1 : Hid (IsRow .u8 (w6.alloc (.cells #[.int .i64 cr2, .int .i64 wh2, .int .i64 al2, .int .i64 ow2, .int .i64 fi2, .string d2, .string f2] 54)) a1 l1 c1 z1) := IsRow.keep R1.out ((Below.refl _ _).alloc (Nat.le_refl _) _)
      go_wp2_with fail
      refine Calls.mono (HS2.out _) ?_
      rintro e w7 ⟨rfl, hb⟩
      replace F : Hid (w7.heap[w1.heap.size]? = some (.cells #[.int .i64 cr, .int .i64 wh, .int .i64 al, .int .i64 ow, .int .i64 fi, .string d, .string f] 54)) := get_below hb F.out (size_of_get F.out)
      replace X : Hid (w7.heap[w3.heap.size]? = some (.cells #[.int .i64 0, .int .i64 0, .int .i64 0, .int .i64 0, .int .i64 0, .string ⟨#[]⟩, .string ⟨#[]⟩] 54)) := get_below hb X.out (size_of_get X.out)
      replace Y : Hid (w7.heap[w6.heap.size]? = some (.cells #[.int .i64 cr2, .int .i64 wh2, .int .i64 al2, .int .i64 ow2, .int .i64 fi2, .string d2, .string f2] 54)) := get_below hb Y.out (size_of_get Y.out)
      replace HB : Hid (Below w.heap.size w w7) := HB.out.trans (hb.mono HB.out.size)
      replace HE : Hid (Errs w7) := HE.out.below hb
      replace R0 : Hid (IsRow .u8 w7 a0 l0 c0 z0) := IsRow.keep R0.out hb
      replace R1 : Hid (IsRow .u8 w7 a1 l1 c1 z1) := IsRow.keep R1.out hb
      clear hb
      replace F : Hid ((w7.alloc (.cells #[.int .i64 cr2, .int .i64 wh2, .int .i64 al2, .int .i64 ow2, .int .i64 fi2, .string d2, .string f2] 54)).heap[w1.heap.size]? = some (.cells #[.int .i64 cr, .int .i64 wh, .int .i64 al, .int .i64 ow, .int .i64 fi, .string d, .string f] 54)) := get_alloc F.out (size_of_get F.out)
      replace X : Hid ((w7.alloc (.cells #[.int .i64 cr2, .int .i64 wh2, .int .i64 al2, .int .i64 ow2, .int .i64 fi2, .string d2, .string f2] 54)).heap[w3.heap.size]? = some (.cells #[.int .i64 0, .int .i64 0, .int .i64 0, .int .i64 0, .int .i64 0, .string ⟨#[]⟩, .string ⟨#[]⟩] 54)) := get_alloc X.out (size_of_get X.out)
      replace Y : Hid ((w7.alloc (.cells #[.int .i64 cr2, .int .i64 wh2, .int .i64 al2, .int .i64 ow2, .int .i64 fi2, .string d2, .string f2] 54)).heap[w6.heap.size]? = some (.cells #[.int .i64 cr2, .int .i64 wh2, .int .i64 al2, .int .i64 ow2, .int .i64 fi2, .string d2, .string f2] 54)) := get_alloc Y.out (size_of_get Y.out)
      have Z : Hid ((w7.alloc (.cells #[.int .i64 cr2, .int .i64 wh2, .int .i64 al2, .int .i64 ow2, .int .i64 fi2, .string d2, .string f2] 54)).heap[w7.heap.size]? = some (.cells #[.int .i64 cr2, .int .i64 wh2, .int .i64 al2, .int .i64 ow2, .int .i64 fi2, .string d2, .string f2] 54)) := get_new rfl
      replace HB : Hid (Below w.heap.size w (w7.alloc (.cells #[.int .i64 cr2, .int .i64 wh2, .int .i64 al2, .int .i64 ow2, .int .i64 fi2, .string d2, .string f2] 54))) := HB.out.alloc HB.out.size _
      replace HE : Hid (Errs (w7.alloc (.cells #[.int .i64 cr2, .int .i64 wh2, .int .i64 al2, .int .i64 ow2, .int .i64 fi2, .string d2, .string f2] 54))) := HE.out.below ((Below.refl _ _).alloc (Nat.le_refl _) _)
      replace R0 : Hid (IsRow .u8 (w7.alloc (.cells #[.int .i64 cr2, .int .i64 wh2, .int .i64 al2, .int .i64 ow2, .int .i64 fi2, .string d2, .string f2] 54)) a0 l0 c0 z0) := IsRow.keep R0.out ((Below.refl _ _).alloc (Nat.le_refl _) _)
      replace R1 : Hid (IsRow .u8 (w7.alloc (.cells #[.int .i64 cr2, .int .i64 wh2, .int .i64 al2, .int .i64 ow2, .int .i64 fi2, .string d2, .string f2] 54)) a1 l1 c1 z1) := IsRow.keep R1.out ((Below.refl _ _).alloc (Nat.le_refl _) _)
      clear HI2 HS2
      obtain ⟨Y_0, Y_1, Y_2, Y_3, Y_4, Y_5, Y_6⟩ := cells7_of Y.out
      obtain ⟨Z_0, Z_1, Z_2, Z_3, Z_4, Z_5, Z_6⟩ := cells7_of Z.out
      go_wp2_with fail
      clear Y_0 Y_1 Y_2 Y_3 Y_4 Y_5 Y_6
      clear Z_0 Z_1 Z_2 Z_3 Z_4 Z_5 Z_6
      refine Calls.mono (HPP.out _ HE.out) ?_
      rintro e w8 ⟨rfl, hb⟩
      replace F : Hid (w8.heap[w1.heap.size]? = some (.cells #[.int .i64 cr, .int .i64 wh, .int .i64 al, .int .i64 ow, .int .i64 fi, .string d, .string f] 54)) := get_below hb F.out (size_of_get F.out)
      replace X : Hid (w8.heap[w3.heap.size]? = some (.cells #[.int .i64 0, .int .i64 0, .int .i64 0, .int .i64 0, .int .i64 0, .string ⟨#[]⟩, .string ⟨#[]⟩] 54)) := get_below hb X.out (size_of_get X.out)
      replace Y : Hid (w8.heap[w6.heap.size]? = some (.cells #[.int .i64 cr2, .int .i64 wh2, .int .i64 al2, .int .i64 ow2, .int .i64 fi2, .string d2, .string f2] 54)) := get_below hb Y.out (size_of_get Y.out)
      replace Z : Hid (w8.heap[w7.heap.size]? = some (.cells #[.int .i64 cr2, .int .i64 wh2, .int .i64 al2, .int .i64 ow2, .int .i64 fi2, .string d2, .string f2] 54)) := get_below hb Z.out (size_of_get Z.out)
      replace HB : Hid (Below w.heap.size w w8) := HB.out.trans (hb.mono HB.out.size)
      replace HE : Hid (Errs w8) := HE.out.below hb
      replace R0 : Hid (IsRow .u8 w8 a0 l0 c0 z0) := IsRow.keep R0.out hb
      replace R1 : Hid (IsRow .u8 w8 a1 l1 c1 z1) := IsRow.keep R1.out hb
      clear hb
      go_wp2_with fail
      go_ret
      exact ⟨rfl, HB.out⟩
  | true =>
    obtain ⟨g1, g2, g3⟩ := dn_back hb rfl
    have HG1 : Hid (∀ W, Errs W → Calls Tryd.prog 41 #[.string (dnPut cr wh al ow fi d f)] W fun e w' => e = .returned (.tuple #[.agg #[.int .i64 cr, .int .i64 wh, .int .i64 al, .int .i64 ow, .int .i64 fi, .string d, .string f], .bool true]) ∧ Below W.heap.size W w') := fun W he => by have := implDownGet_any (dnPut cr wh al ow fi d f) W (by unfold maxLen; omega) he; rw [g1, g2] at this; exact this
    clear g1 g2 hb
    generalize dnPut cr wh al ow fi d f = t at *
    have hteq : (t.toList == t.toList) = true := by simp
    have hne : t.toList.isEmpty = false := ne_empty (by omega)
    go_wp2_with fail
    refine Calls.mono (HG1.out _ HE.out) ?_
    rintro e w3 ⟨rfl, hb⟩
    replace F : Hid (w3.heap[w1.heap.size]? = some (.cells #[.int .i64 cr, .int .i64 wh, .int .i64 al, .int .i64 ow, .int .i64 fi, .string d, .string f] 54)) := get_below hb F.out (size_of_get F.out)
    replace HB : Hid (Below w.heap.size w w3) := HB.out.trans (hb.mono HB.out.size)
    replace HE : Hid (Errs w3) := HE.out.below hb
    replace R0 : Hid (IsRow .u8 w3 a0 l0 c0 z0) := IsRow.keep R0.out hb
    replace R1 : Hid (IsRow .u8 w3 a1 l1 c1 z1) := IsRow.keep R1.out hb
    clear hb
    replace F : Hid ((w3.alloc (.cells #[.int .i64 cr, .int .i64 wh, .int .i64 al, .int .i64 ow, .int .i64 fi, .string d, .string f] 54)).heap[w1.heap.size]? = some (.cells #[.int .i64 cr, .int .i64 wh, .int .i64 al, .int .i64 ow, .int .i64 fi, .string d, .string f] 54)) := get_alloc F.out (size_of_get F.out)
    have X : Hid ((w3.alloc (.cells #[.int .i64 cr, .int .i64 wh, .int .i64 al, .int .i64 ow, .int .i64 fi, .string d, .string f] 54)).heap[w3.heap.size]? = some (.cells #[.int .i64 cr, .int .i64 wh, .int .i64 al, .int .i64 ow, .int .i64 fi, .string d, .string f] 54)) := get_new rfl
    replace HB : Hid (Below w.heap.size w (w3.alloc (.cells #[.int .i64 cr, .int .i64 wh, .int .i64 al, .int .i64 ow, .int .i64 fi, .string d, .string f] 54))) := HB.out.alloc HB.out.size _
    replace HE : Hid (Errs (w3.alloc (.cells #[.int .i64 cr, .int .i64 wh, .int .i64 al, .int .i64 ow, .int .i64 fi, .string d, .string f] 54))) := HE.out.below ((Below.refl _ _).alloc (Nat.le_refl _) _)
    replace R0 : Hid (IsRow .u8 (w3.alloc (.cells #[.int .i64 cr, .int .i64 wh, .int .i64 al, .int .i64 ow, .int .i64 fi, .string d, .string f] 54)) a0 l0 c0 z0) := IsRow.keep R0.out ((Below.refl _ _).alloc (Nat.le_refl _) _)
    replace R1 : Hid (IsRow .u8 (w3.alloc (.cells #[.int .i64 cr, .int .i64 wh, .int .i64 al, .int .i64 ow, .int .i64 fi, .string d, .string f] 54)) a1 l1 c1 z1) := IsRow.keep R1.out ((Below.refl _ _).alloc (Nat.le_refl _) _)
    obtain ⟨F_0, F_1, F_2, F_3, F_4, F_5, F_6⟩ := cells7_of F.out
    go_wp2_with fail
    clear F_0 F_1 F_2 F_3 F_4 F_5 F_6
    refine Calls.mono (HSP.out _) ?_
    rintro e w4 ⟨rfl, hb⟩
    replace F : Hid (w4.heap[w1.heap.size]? = some (.cells #[.int .i64 cr, .int .i64 wh, .int .i64 al, .int .i64 ow, .int .i64 fi, .string d, .string f] 54)) := get_below hb F.out (size_of_get F.out)
    replace X : Hid (w4.heap[w3.heap.size]? = some (.cells #[.int .i64 cr, .int .i64 wh, .int .i64 al, .int .i64 ow, .int .i64 fi, .string d, .string f] 54)) := get_below hb X.out (size_of_get X.out)
    replace HB : Hid (Below w.heap.size w w4) := HB.out.trans (hb.mono HB.out.size)
    replace HE : Hid (Errs w4) := HE.out.below hb
    replace R0 : Hid (IsRow .u8 w4 a0 l0 c0 z0) := IsRow.keep R0.out hb
    replace R1 : Hid (IsRow .u8 w4 a1 l1 c1 z1) := IsRow.keep R1.out hb
    clear hb
    clear HSP HG1
    obtain ⟨F_0, F_1, F_2, F_3, F_4, F_5, F_6⟩ := cells7_of F.out
    obtain ⟨X_0, X_1, X_2, X_3, X_4, X_5, X_6⟩ := cells7_of X.out
    go_wp2_with fail
    clear F_0 F_1 F_2 F_3 F_4 F_5 F_6
    clear X_0 X_1 X_2 X_3 X_4 X_5 X_6
    clear hteq hne
    refine (DrawDownGet_any a1 l1 c1 z1 _ R1.out).mono ?_
    rintro e w5 ⟨s, hs, rfl, hb⟩
    replace F : Hid (w5.heap[w1.heap.size]? = some (.cells #[.int .i64 cr, .int .i64 wh, .int .i64 al, .int .i64 ow, .int .i64 fi, .string d, .string f] 54)) := get_below hb F.out (size_of_get F.out)
    replace X : Hid (w5.heap[w3.heap.size]? = some (.cells #[.int .i64 cr, .int .i64 wh, .int .i64 al, .int .i64 ow, .int .i64 fi, .string d, .string f] 54)) := get_below hb X.out (size_of_get X.out)
    replace HB : Hid (Below w.heap.size w w5) := HB.out.trans (hb.mono HB.out.size)
    replace HE : Hid (Errs w5) := HE.out.below hb
    replace R0 : Hid (IsRow .u8 w5 a0 l0 c0 z0) := IsRow.keep R0.out hb
    replace R1 : Hid (IsRow .u8 w5 a1 l1 c1 z1) := IsRow.keep R1.out hb
    clear hb
    cases hok : dgOk s with
    | false =>
      have v1 := dgV_no hok
      have HI2 : Hid (∀ W, Errs W → Calls Tryd.prog 41 #[.string s] W fun e w' => e = .returned (.tuple #[.agg #[.int .i64 0, .int .i64 0, .int .i64 0, .int .i64 0, .int .i64 0, .string ⟨#[]⟩, .string ⟨#[]⟩], .bool false]) ∧ Below W.heap.size W w') := fun W he => by have := implDownGet_any s W (by unfold maxLen; omega) he; rw [v1, hok] at this; exact this
      have HS2 : Hid (∀ W, Calls Tryd.prog 40 #[.string s] W fun e w' => e = .returned (.tuple #[.agg #[.int .i64 0, .int .i64 0, .int .i64 0, .int .i64 0, .int .i64 0, .string ⟨#[]⟩, .string ⟨#[]⟩], .bool false]) ∧ Below W.heap.size W w') := fun W => by have := specDownGet_any s W; rw [v1, hok] at this; exact this
      clear v1 hok
      go_wp2_with fail
      refine Calls.mono (HI2.out _ HE.out) ?_
      rintro e w6 ⟨rfl, hb⟩
      replace F : Hid (w6.heap[w1.heap.size]? = some (.cells #[.int .i64 cr, .int .i64 wh, .int .i64 al, .int .i64 ow, .int .i64 fi, .string d, .string f] 54)) := get_below hb F.out (size_of_get F.out)
      replace X : Hid (w6.heap[w3.heap.size]? = some (.cells #[.int .i64 cr, .int .i64 wh, .int .i64 al, .int .i64 ow, .int .i64 fi, .string d, .string f] 54)) := get_below hb X.out (size_of_get X.out)
      replace HB : Hid (Below w.heap.size w w6) := HB.out.trans (hb.mono HB.out.size)
      replace HE : Hid (Errs w6) := HE.out.below hb
      replace R0 : Hid (IsRow .u8 w6 a0 l0 c0 z0) := IsRow.keep R0.out hb
      replace R1 : Hid (IsRow .u8 w6 a1 l1 c1 z1) := IsRow.keep R1.out hb
      clear hb
      replace F : Hid ((w6.alloc (.cells #[.int .i64 0, .int .i64 0, .int .i64 0, .int .i64 0, .int .i64 0, .string ⟨#[]⟩, .string ⟨#[]⟩] 54)).heap[w1.heap.size]? = some (.cells #[.int .i64 cr, .int .i64 wh, .int .i64 al, .int .i64 ow, .int .i64 fi, .string d, .string f] 54)) := get_alloc F.out (size_of_get F.out)
      replace X : Hid ((w6.alloc (.cells #[.int .i64 0, .int .i64 0, .int .i64 0, .int .i64 0, .int .i64 0, .string ⟨#[]⟩, .string ⟨#[]⟩] 54)).heap[w3.heap.size]? = some (.cells #[.int .i64 cr, .int .i64 wh, .int .i64 al, .int .i64 ow, .int .i64 fi, .string d, .string f] 54)) := get_alloc X.out (size_of_get X.out)
      have Y : Hid ((w6.alloc (.cells #[.int .i64 0, .int .i64 0, .int .i64 0, .int .i64 0, .int .i64 0, .string ⟨#[]⟩, .string ⟨#[]⟩] 54)).heap[w6.heap.size]? = some (.cells #[.int .i64 0, .int .i64 0, .int .i64 0, .int .i64 0, .int .i64 0, .string ⟨#[]⟩, .string ⟨#[]⟩] 54)) := get_new rfl
      replace HB : Hid (Below w.heap.size w (w6.alloc (.cells #[.int .i64 0, .int .i64 0, .int .i64 0, .int .i64 0, .int .i64 0, .string ⟨#[]⟩, .string ⟨#[]⟩] 54))) := HB.out.alloc HB.out.size _
      replace HE : Hid (Errs (w6.alloc (.cells #[.int .i64 0, .int .i64 0, .int .i64 0, .int .i64 0, .int .i64 0, .string ⟨#[]⟩, .string ⟨#[]⟩] 54))) := HE.out.below ((Below.refl _ _).alloc (Nat.le_refl _) _)
      replace R0 : Hid (IsRow .u8 (w6.alloc (.cells #[.int .i64 0, .int .i64 0, .int .i64 0, .int .i64 0, .int .i64 0, .string ⟨#[]⟩, .string ⟨#[]⟩] 54)) a0 l0 c0 z0) := IsRow.keep R0.out ((Below.refl _ _).alloc (Nat.le_refl _) _)
      replace R1 : Hid (IsRow .u8 (w6.alloc (.cells #[.int .i64 0, .int .i64 0, .int .i64 0, .int .i64 0, .int .i64 0, .string ⟨#[]⟩, .string ⟨#[]⟩] 54)) a1 l1 c1 z1) := IsRow.keep R1.out ((Below.refl _ _).alloc (Nat.le_refl _) _)
      go_wp2_with fail
      refine Calls.mono (HS2.out _) ?_
      rintro e w7 ⟨rfl, hb⟩
      replace F : Hid (w7.heap[w1.heap.size]? = some (.cells #[.int .i64 cr, .int .i64 wh, .int .i64 al, .int .i64 ow, .int .i64 fi, .string d, .string f] 54)) := get_below hb F.out (size_of_get F.out)
      replace X : Hid (w7.heap[w3.heap.size]? = some (.cells #[.int .i64 cr, .int .i64 wh, .int .i64 al, .int .i64 ow, .int .i64 fi, .string d, .string f] 54)) := get_below hb X.out (size_of_get X.out)
      replace Y : Hid (w7.heap[w6.heap.size]? = some (.cells #[.int .i64 0, .int .i64 0, .int .i64 0, .int .i64 0, .int .i64 0, .string ⟨#[]⟩, .string ⟨#[]⟩] 54)) := get_below hb Y.out (size_of_get Y.out)
      replace HB : Hid (Below w.heap.size w w7) := HB.out.trans (hb.mono HB.out.size)
      replace HE : Hid (Errs w7) := HE.out.below hb
      replace R0 : Hid (IsRow .u8 w7 a0 l0 c0 z0) := IsRow.keep R0.out hb
      replace R1 : Hid (IsRow .u8 w7 a1 l1 c1 z1) := IsRow.keep R1.out hb
      clear hb
      replace F : Hid ((w7.alloc (.cells #[.int .i64 0, .int .i64 0, .int .i64 0, .int .i64 0, .int .i64 0, .string ⟨#[]⟩, .string ⟨#[]⟩] 54)).heap[w1.heap.size]? = some (.cells #[.int .i64 cr, .int .i64 wh, .int .i64 al, .int .i64 ow, .int .i64 fi, .string d, .string f] 54)) := get_alloc F.out (size_of_get F.out)
      replace X : Hid ((w7.alloc (.cells #[.int .i64 0, .int .i64 0, .int .i64 0, .int .i64 0, .int .i64 0, .string ⟨#[]⟩, .string ⟨#[]⟩] 54)).heap[w3.heap.size]? = some (.cells #[.int .i64 cr, .int .i64 wh, .int .i64 al, .int .i64 ow, .int .i64 fi, .string d, .string f] 54)) := get_alloc X.out (size_of_get X.out)
      replace Y : Hid ((w7.alloc (.cells #[.int .i64 0, .int .i64 0, .int .i64 0, .int .i64 0, .int .i64 0, .string ⟨#[]⟩, .string ⟨#[]⟩] 54)).heap[w6.heap.size]? = some (.cells #[.int .i64 0, .int .i64 0, .int .i64 0, .int .i64 0, .int .i64 0, .string ⟨#[]⟩, .string ⟨#[]⟩] 54)) := get_alloc Y.out (size_of_get Y.out)
      have Z : Hid ((w7.alloc (.cells #[.int .i64 0, .int .i64 0, .int .i64 0, .int .i64 0, .int .i64 0, .string ⟨#[]⟩, .string ⟨#[]⟩] 54)).heap[w7.heap.size]? = some (.cells #[.int .i64 0, .int .i64 0, .int .i64 0, .int .i64 0, .int .i64 0, .string ⟨#[]⟩, .string ⟨#[]⟩] 54)) := get_new rfl
      replace HB : Hid (Below w.heap.size w (w7.alloc (.cells #[.int .i64 0, .int .i64 0, .int .i64 0, .int .i64 0, .int .i64 0, .string ⟨#[]⟩, .string ⟨#[]⟩] 54))) := HB.out.alloc HB.out.size _
      replace HE : Hid (Errs (w7.alloc (.cells #[.int .i64 0, .int .i64 0, .int .i64 0, .int .i64 0, .int .i64 0, .string ⟨#[]⟩, .string ⟨#[]⟩] 54))) := HE.out.below ((Below.refl _ _).alloc (Nat.le_refl _) _)
      replace R0 : Hid (IsRow .u8 (w7.alloc (.cells #[.int .i64 0, .int .i64 0, .int .i64 0, .int .i64 0, .int .i64 0, .string ⟨#[]⟩, .string ⟨#[]⟩] 54)) a0 l0 c0 z0) := IsRow.keep R0.out ((Below.refl _ _).alloc (Nat.le_refl _) _)
      replace R1 : Hid (IsRow .u8 (w7.alloc (.cells #[.int .i64 0, .int .i64 0, .int .i64 0, .int .i64 0, .int .i64 0, .string ⟨#[]⟩, .string ⟨#[]⟩] 54)) a1 l1 c1 z1) := IsRow.keep R1.out ((Below.refl _ _).alloc (Nat.le_refl _) _)
      clear HI2 HS2
      obtain ⟨Y_0, Y_1, Y_2, Y_3, Y_4, Y_5, Y_6⟩ := cells7_of Y.out
      obtain ⟨Z_0, Z_1, Z_2, Z_3, Z_4, Z_5, Z_6⟩ := cells7_of Z.out
      go_wp2_with fail
      clear Y_0 Y_1 Y_2 Y_3 Y_4 Y_5 Y_6
      clear Z_0 Z_1 Z_2 Z_3 Z_4 Z_5 Z_6
      go_ret
      exact ⟨rfl, HB.out⟩
    | true =>
      have v1 : dgV s = .agg #[.int .i64 ((gt s 0 2 : Int) / 16 % 1024), .int .i64 ((gt s 0 2 : Int) / 2 % 8), .int .i64 (byteAt s 2 : Nat), .int .i64 (byteAt s 3 : Nat), .int .i64 ((gt s 4 2 : Int) % 2048), .string (s.extract 6 34), .string (s.extract 34 38)] := by unfold dgV; rw [if_pos hok]
      have hput : dgPut s = s := by simp only [dgOk, Bool.and_eq_true, decide_eq_true_eq] at hok; exact hok.2
      unfold dgPut at hput
      have hd2 : (s.extract 6 34).size ≤ maxLen := by rw [ByteArray.size_extract]; unfold maxLen; omega
      have hf2 : (s.extract 34 38).size ≤ maxLen := by rw [ByteArray.size_extract]; unfold maxLen; omega
      generalize (gt s 0 2 : Int) / 16 % 1024 = cr2 at *
      generalize (gt s 0 2 : Int) / 2 % 8 = wh2 at *
      generalize ((byteAt s 2 : Nat) : Int) = al2 at *
      generalize ((byteAt s 3 : Nat) : Int) = ow2 at *
      generalize (gt s 4 2 : Int) % 2048 = fi2 at *
      generalize s.extract 6 34 = d2 at *
      generalize s.extract 34 38 = f2 at *
      have HPP : Hid (∀ W, Errs W → Calls Tryd.prog 39 #[.agg #[.int .i64 cr2, .int .i64 wh2, .int .i64 al2, .int .i64 ow2, .int .i64 fi2, .string d2, .string f2]] W fun e w' => e = .returned (.string s) ∧ Below W.heap.size W w') := fun W he => by have := implDownPut_any cr2 wh2 al2 ow2 fi2 d2 f2 W hd2 hf2 he; rw [hput] at this; exact this
      have HI2 : Hid (∀ W, Errs W → Calls Tryd.prog 41 #[.string s] W fun e w' => e = .returned (.tuple #[.agg #[.int .i64 cr2, .int .i64 wh2, .int .i64 al2, .int .i64 ow2, .int .i64 fi2, .string d2, .string f2], .bool true]) ∧ Below W.heap.size W w') := fun W he => by have := implDownGet_any s W (by unfold maxLen; omega) he; rw [v1, hok] at this; exact this
      have HS2 : Hid (∀ W, Calls Tryd.prog 40 #[.string s] W fun e w' => e = .returned (.tuple #[.agg #[.int .i64 cr2, .int .i64 wh2, .int .i64 al2, .int .i64 ow2, .int .i64 fi2, .string d2, .string f2], .bool true]) ∧ Below W.heap.size W w') := fun W => by have := specDownGet_any s W; rw [v1, hok] at this; exact this
      clear hput hd2 hf2
      have hxx : (s.toList == s.toList) = true := by simp
      clear v1 hok
      go_wp2_with fail
      refine Calls.mono (HI2.out _ HE.out) ?_
      rintro e w6 ⟨rfl, hb⟩
      replace F : Hid (w6.heap[w1.heap.size]? = some (.cells #[.int .i64 cr, .int .i64 wh, .int .i64 al, .int .i64 ow, .int .i64 fi, .string d, .string f] 54)) := get_below hb F.out (size_of_get F.out)
      replace X : Hid (w6.heap[w3.heap.size]? = some (.cells #[.int .i64 cr, .int .i64 wh, .int .i64 al, .int .i64 ow, .int .i64 fi, .string d, .string f] 54)) := get_below hb X.out (size_of_get X.out)
      replace HB : Hid (Below w.heap.size w w6) := HB.out.trans (hb.mono HB.out.size)
      replace HE : Hid (Errs w6) := HE.out.below hb
      replace R0 : Hid (IsRow .u8 w6 a0 l0 c0 z0) := IsRow.keep R0.out hb
      replace R1 : Hid (IsRow .u8 w6 a1 l1 c1 z1) := IsRow.keep R1.out hb
      clear hb
      replace F : Hid ((w6.alloc (.cells #[.int .i64 cr2, .int .i64 wh2, .int .i64 al2, .int .i64 ow2, .int .i64 fi2, .string d2, .string f2] 54)).heap[w1.heap.size]? = some (.cells #[.int .i64 cr, .int .i64 wh, .int .i64 al, .int .i64 ow, .int .i64 fi, .string d, .string f] 54)) := get_alloc F.out (size_of_get F.out)
      replace X : Hid ((w6.alloc (.cells #[.int .i64 cr2, .int .i64 wh2, .int .i64 al2, .int .i64 ow2, .int .i64 fi2, .string d2, .string f2] 54)).heap[w3.heap.size]? = some (.cells #[.int .i64 cr, .int .i64 wh, .int .i64 al, .int .i64 ow, .int .i64 fi, .string d, .string f] 54)) := get_alloc X.out (size_of_get X.out)
      have Y : Hid ((w6.alloc (.cells #[.int .i64 cr2, .int .i64 wh2, .int .i64 al2, .int .i64 ow2, .int .i64 fi2, .string d2, .string f2] 54)).heap[w6.heap.size]? = some (.cells #[.int .i64 cr2, .int .i64 wh2, .int .i64 al2, .int .i64 ow2, .int .i64 fi2, .string d2, .string f2] 54)) := get_new rfl
      replace HB : Hid (Below w.heap.size w (w6.alloc (.cells #[.int .i64 cr2, .int .i64 wh2, .int .i64 al2, .int .i64 ow2, .int .i64 fi2, .string d2, .string f2] 54))) := HB.out.alloc HB.out.size _
      replace HE : Hid (Errs (w6.alloc (.cells #[.int .i64 cr2, .int .i64 wh2, .int .i64 al2, .int .i64 ow2, .int .i64 fi2, .string d2, .string f2] 54))) := HE.out.below ((Below.refl _ _).alloc (Nat.le_refl _) _)
      replace R0 : Hid (IsRow .u8 (w6.alloc (.cells #[.int .i64 cr2, .int .i64 wh2, .int .i64 al2, .int .i64 ow2, .int .i64 fi2, .string d2, .string f2] 54)) a0 l0 c0 z0) := IsRow.keep R0.out ((Below.refl _ _).alloc (Nat.le_refl _) _)
      replace R1 : Hid (IsRow .u8 (w6.alloc (.cells #[.int .i64 cr2, .int .i64 wh2, .int .i64 al2, .int .i64 ow2, .int .i64 fi2, .string d2, .string f2] 54)) a1 l1 c1 z1) := IsRow.keep R1.out ((Below.refl _ _).alloc (Nat.le_refl _) _)
      go_wp2_with fail
      refine Calls.mono (HS2.out _) ?_
      rintro e w7 ⟨rfl, hb⟩
      replace F : Hid (w7.heap[w1.heap.size]? = some (.cells #[.int .i64 cr, .int .i64 wh, .int .i64 al, .int .i64 ow, .int .i64 fi, .string d, .string f] 54)) := get_below hb F.out (size_of_get F.out)
      replace X : Hid (w7.heap[w3.heap.size]? = some (.cells #[.int .i64 cr, .int .i64 wh, .int .i64 al, .int .i64 ow, .int .i64 fi, .string d, .string f] 54)) := get_below hb X.out (size_of_get X.out)
      replace Y : Hid (w7.heap[w6.heap.size]? = some (.cells #[.int .i64 cr2, .int .i64 wh2, .int .i64 al2, .int .i64 ow2, .int .i64 fi2, .string d2, .string f2] 54)) := get_below hb Y.out (size_of_get Y.out)
      replace HB : Hid (Below w.heap.size w w7) := HB.out.trans (hb.mono HB.out.size)
      replace HE : Hid (Errs w7) := HE.out.below hb
      replace R0 : Hid (IsRow .u8 w7 a0 l0 c0 z0) := IsRow.keep R0.out hb
      replace R1 : Hid (IsRow .u8 w7 a1 l1 c1 z1) := IsRow.keep R1.out hb
      clear hb
      replace F : Hid ((w7.alloc (.cells #[.int .i64 cr2, .int .i64 wh2, .int .i64 al2, .int .i64 ow2, .int .i64 fi2, .string d2, .string f2] 54)).heap[w1.heap.size]? = some (.cells #[.int .i64 cr, .int .i64 wh, .int .i64 al, .int .i64 ow, .int .i64 fi, .string d, .string f] 54)) := get_alloc F.out (size_of_get F.out)
      replace X : Hid ((w7.alloc (.cells #[.int .i64 cr2, .int .i64 wh2, .int .i64 al2, .int .i64 ow2, .int .i64 fi2, .string d2, .string f2] 54)).heap[w3.heap.size]? = some (.cells #[.int .i64 cr, .int .i64 wh, .int .i64 al, .int .i64 ow, .int .i64 fi, .string d, .string f] 54)) := get_alloc X.out (size_of_get X.out)
      replace Y : Hid ((w7.alloc (.cells #[.int .i64 cr2, .int .i64 wh2, .int .i64 al2, .int .i64 ow2, .int .i64 fi2, .string d2, .string f2] 54)).heap[w6.heap.size]? = some (.cells #[.int .i64 cr2, .int .i64 wh2, .int .i64 al2, .int .i64 ow2, .int .i64 fi2, .string d2, .string f2] 54)) := get_alloc Y.out (size_of_get Y.out)
      have Z : Hid ((w7.alloc (.cells #[.int .i64 cr2, .int .i64 wh2, .int .i64 al2, .int .i64 ow2, .int .i64 fi2, .string d2, .string f2] 54)).heap[w7.heap.size]? = some (.cells #[.int .i64 cr2, .int .i64 wh2, .int .i64 al2, .int .i64 ow2, .int .i64 fi2, .string d2, .string f2] 54)) := get_new rfl
      replace HB : Hid (Below w.heap.size w (w7.alloc (.cells #[.int .i64 cr2, .int .i64 wh2, .int .i64 al2, .int .i64 ow2, .int .i64 fi2, .string d2, .string f2] 54))) := HB.out.alloc HB.out.size _
      replace HE : Hid (Errs (w7.alloc (.cells #[.int .i64 cr2, .int .i64 wh2, .int .i64 al2, .int .i64 ow2, .int .i64 fi2, .string d2, .string f2] 54))) := HE.out.below ((Below.refl _ _).alloc (Nat.le_refl _) _)
      replace R0 : Hid (IsRow .u8 (w7.alloc (.cells #[.int .i64 cr2, .int .i64 wh2, .int .i64 al2, .int .i64 ow2, .int .i64 fi2, .string d2, .string f2] 54)) a0 l0 c0 z0) := IsRow.keep R0.out ((Below.refl _ _).alloc (Nat.le_refl _) _)
      replace R1 : Hid (IsRow .u8 (w7.alloc (.cells #[.int .i64 cr2, .int .i64 wh2, .int .i64 al2, .int .i64 ow2, .int .i64 fi2, .string d2, .string f2] 54)) a1 l1 c1 z1) := IsRow.keep R1.out ((Below.refl _ _).alloc (Nat.le_refl _) _)
      clear HI2 HS2
      obtain ⟨Y_0, Y_1, Y_2, Y_3, Y_4, Y_5, Y_6⟩ := cells7_of Y.out
      obtain ⟨Z_0, Z_1, Z_2, Z_3, Z_4, Z_5, Z_6⟩ := cells7_of Z.out
      go_wp2_with fail
      clear Y_0 Y_1 Y_2 Y_3 Y_4 Y_5 Y_6
      clear Z_0 Z_1 Z_2 Z_3 Z_4 Z_5 Z_6
      refine Calls.mono (HPP.out _ HE.out) ?_
      rintro e w8 ⟨rfl, hb⟩
      replace F : Hid (w8.heap[w1.heap.size]? = some (.cells #[.int .i64 cr, .int .i64 wh, .int .i64 al, .int .i64 ow, .int .i64 fi, .string d, .string f] 54)) := get_below hb F.out (size_of_get F.out)
      replace X : Hid (w8.heap[w3.heap.size]? = some (.cells #[.int .i64 cr, .int .i64 wh, .int .i64 al, .int .i64 ow, .int .i64 fi, .string d, .string f] 54)) := get_below hb X.out (size_of_get X.out)
      replace Y : Hid (w8.heap[w6.heap.size]? = some (.cells #[.int .i64 cr2, .int .i64 wh2, .int .i64 al2, .int .i64 ow2, .int .i64 fi2, .string d2, .string f2] 54)) := get_below hb Y.out (size_of_get Y.out)
      replace Z : Hid (w8.heap[w7.heap.size]? = some (.cells #[.int .i64 cr2, .int .i64 wh2, .int .i64 al2, .int .i64 ow2, .int .i64 fi2, .string d2, .string f2] 54)) := get_below hb Z.out (size_of_get Z.out)
      replace HB : Hid (Below w.heap.size w w8) := HB.out.trans (hb.mono HB.out.size)
      replace HE : Hid (Errs w8) := HE.out.below hb
      replace R0 : Hid (IsRow .u8 w8 a0 l0 c0 z0) := IsRow.keep R0.out hb
      replace R1 : Hid (IsRow .u8 w8 a1 l1 c1 z1) := IsRow.keep R1.out hb
      clear hb
      go_wp2_with fail
      go_ret
      exact ⟨rfl, HB.out⟩
theorem FnDownBack_g0 : Tryd.prog.globalNamed "loop.example/skyway/impl.errShort" = some 2 := by kernel_rfl
theorem FnDownBack_t0 : (Tryd.prog.globals[2]?).map (·.type) = some 107 := by kernel_rfl
theorem FnDownBack_g1 : Tryd.prog.globalNamed "loop.example/skyway/impl.errOther" = some 0 := by kernel_rfl
theorem FnDownBack_t1 : (Tryd.prog.globals[0]?).map (·.type) = some 107 := by kernel_rfl
theorem FnDownBack_star : "*" ++ "errors.errorString" = "*errors.errorString" := by decide
theorem FnDownBack_rowP (u : TypeId) (h : Tryd.prog.typeName? 3 u = some "*errors.errorString") : u = 158 :=
  typeName_ptr_named (nm := "errors.errorString") (by rw [FnDownBack_star]; kernel_rfl) (by kernel_rfl) (by decide) u (by rw [FnDownBack_star]; exact h)
theorem FnDownBack_c1 : Tryd.prog.cellsOf 174 = 1 := by kernel_rfl
theorem FnDownBack_c2 : Tryd.prog.cellsOf 9 = 1 := by kernel_rfl
def FnDownBack_list : List (String × DataW Unit) := [("loop.example/skyway/impl.errShort", Rows.laid_loop_example_skyway_impl_errShort), ("loop.example/skyway/impl.errOther", Rows.laid_loop_example_skyway_impl_errOther)]
theorem FnDownBack_met (os : Os) (args : Array Value) : laidMetH Tryd.prog FnDownBack_list ((World.doorLaid Tryd.prog 400 os).forCall (fun _ _ => 0) ⟨#[], args, []⟩).memory :=
  laidMetH_of_parts3 (fuel := 8) (laidMet_of_run' 8 (by kernel_rfl) (by kernel_rfl)) (by kernel_rfl) (by kernel_rfl)
theorem FnDownBack_var {W W' : World} {n : String} {cs : Array Value} (k : Below W.heap.size W W') (h : W.var? Tryd.prog n = some cs) : W'.var? Tryd.prog n = some cs := by
  unfold World.var? at h ⊢
  cases hg : Tryd.prog.globalNamed n with
  | none => simp [hg] at h
  | some g =>
    simp only [hg, Option.bind_some] at h ⊢
    have hlt : g < W.heap.size := by
      rcases Nat.lt_or_ge g W.heap.size with h' | h'
      · exact h'
      · simp [Array.getElem?_eq_none h'] at h
    rw [k.block g hlt]; exact h
theorem FnDownBack_of {W : World} (h : laidMetH Tryd.prog FnDownBack_list W) : ∃ x0 x1 : Addr, W.var? Tryd.prog "loop.example/skyway/impl.errShort" = some #[.iface 158 (.pointer (some x0))] ∧ W.var? Tryd.prog "loop.example/skyway/impl.errOther" = some #[.iface 158 (.pointer (some x1))] := by
  rw [MakeChecks.laidMetH_plain _ _ _ (by kernel_rfl)] at h
  obtain ⟨x0, _, v0, _⟩ := laid_sentinel h FnDownBack_g0 FnDownBack_t0 Tryd.underlying107 FnDownBack_rowP Tryd.underlying158 Tryd.underlying174 rfl rfl Tryd.underlying9 FnDownBack_c1 FnDownBack_c2
  obtain ⟨x1, _, v1, _⟩ := laid_sentinel (h).tail FnDownBack_g1 FnDownBack_t1 Tryd.underlying107 FnDownBack_rowP Tryd.underlying158 Tryd.underlying174 rfl rfl Tryd.underlying9 FnDownBack_c1 FnDownBack_c2
  exact ⟨x0, x1, v0, v1⟩
theorem FnDownBack_own : ownKnob Tryd.prog.godebug = none := by kernel_rfl
theorem FnDownBack_laidOut : laidOutB Tryd.prog = true := by kernel_rfl
set_option maxRecDepth 100000 in
theorem FnDownBack_lifted (os : Os) (started : os.Started) (H : Type) (enc : TypeId × Value → H) :
    ReturnsInHanded {} Tryd.checked os 12 .any (fun w args => (Rows.fnDownBackSpec.pre enc Tryd.prog Tryd.f12 [] false w args ∧ laidMetH Tryd.prog FnDownBack_list w) ∧ sizedMet enc Tryd.prog Tryd.f12 (OpenSpec.ofChange Rows.fnDownBackSpec) false w args) (Rows.fnDownBackSpec.post enc Tryd.prog Tryd.f12 false true false false) := by
  refine returnsInHanded_of_change_and (C := Tryd.checked) (X := fun w _ => laidMetH Tryd.prog FnDownBack_list w) (fun _ _ _ hh h => h.of_heap hh) FnDownBack_own started (by kernel_rfl) Tryd.func12
    (ChangeSpec.witness_shaped (enc := enc) (C := Tryd.checked) (os := os) (X := fun w _ => laidMetH Tryd.prog FnDownBack_list w) false (World.doorLaid Tryd.prog 400 os) #[.slice none 0 0, .slice none 0 0] 8 rfl (World.shaped_of_RefB (by kernel_rfl) (by kernel_rfl)) (by kernel_rfl) (by kernel_rfl) (by kernel_rfl) (FnDownBack_met os _)) ?_
  intro W base args ds gs before hval0 hW hcnd _ hL _
  have hval : ∀ (j : Nat) t v, Tryd.f12.params[j]? = some t → args[j]? = some v → Value.okWide Tryd.prog W .any base t v := hval0
  have hW' := hW
  obtain ⟨p, q, hA0, hV0, rfl, hfz, hnd⟩ := hW
  have hV : DataW.TrodVars enc Tryd.prog W (fun _ => true) ["loop.example/skyway/impl.errShort", "loop.example/skyway/impl.errOther"] gs q := hV0
  obtain ⟨x0, x1, hv0, hv1⟩ := FnDownBack_of hL
  have hA : DataW.TrodAll enc Tryd.prog W 0 (fun _ => true) true Tryd.f12.params.toList args.toList ds p := hA0
  rw [Tryd.params12] at hA hval
  obtain ⟨v0, vs0, d0, ds0, p0, q0, hargs, rfl, rfl, h0, r0⟩ := trodAll_cons hA
  obtain ⟨v1, vs1, d1, ds1, p1, q1, rfl, rfl, rfl, h1, r1⟩ := trodAll_cons r0
  obtain ⟨rfl, rfl, rfl⟩ := trodAll_nil r1
  obtain rfl : args = #[v0, v1] := by cases args; simp_all
  obtain ⟨rfl, rfl⟩ := hV.unique (vars_read2 enc FnDownBack_g0 FnDownBack_t0 Tryd.underlying107 hv0 trivial FnDownBack_g1 FnDownBack_t1 Tryd.underlying107 hv1 trivial _)
  obtain ⟨a0, len0, cap0, rfl⟩ := okWide_slice Tryd.underlying39 (hval 0 39 v0 rfl rfl)
  have k0 := h0
  have lt0 : ∀ x ∈ p0, x.block < W.heap.size := by obtain ⟨m, hm⟩ := k0; exact DataW.trod_lt m _ _ _ hm
  obtain ⟨z0, w0⟩ : ∃ zs, IsRow .u8 W a0 len0 cap0 zs := by
    obtain ⟨fuel, hf⟩ := h0
    rcases open_ints Tryd.underlying39 Tryd.underlying5 (by kernel_rfl) hf with ⟨hcs, _⟩ | ⟨x, l, c, zs, hcs, _, hl, hm, hz, _, hcell, hwz⟩
    · simp [Value.cells] at hcs
      obtain ⟨rfl, rfl, rfl⟩ := hcs
      exact ⟨[], .inl ⟨rfl, rfl, rfl, rfl⟩⟩
    · simp [Value.cells] at hcs
      obtain ⟨rfl, rfl, rfl⟩ := hcs
      exact ⟨zs, .inr ⟨_, rfl, hl, hm, by simpa using hz, hcell, hwz⟩⟩
  obtain ⟨a1, len1, cap1, rfl⟩ := okWide_slice Tryd.underlying39 (hval 1 39 v1 rfl rfl)
  have k1 := h1
  have lt1 : ∀ x ∈ p1, x.block < W.heap.size := by obtain ⟨m, hm⟩ := k1; exact DataW.trod_lt m _ _ _ hm
  obtain ⟨z1, w1⟩ : ∃ zs, IsRow .u8 W a1 len1 cap1 zs := by
    obtain ⟨fuel, hf⟩ := h1
    rcases open_ints Tryd.underlying39 Tryd.underlying5 (by kernel_rfl) hf with ⟨hcs, _⟩ | ⟨x, l, c, zs, hcs, _, hl, hm, hz, _, hcell, hwz⟩
    · simp [Value.cells] at hcs
      obtain ⟨rfl, rfl, rfl⟩ := hcs
      exact ⟨[], .inl ⟨rfl, rfl, rfl, rfl⟩⟩
    · simp [Value.cells] at hcs
      obtain ⟨rfl, rfl, rfl⟩ := hcs
      exact ⟨zs, .inr ⟨_, rfl, hl, hm, by simpa using hz, hcell, hwz⟩⟩
  clear hA0 hval0 hV0
  refine (FnDownBack_walk a0 len0 cap0 z0 a1 len1 cap1 z1 W w0 w1 ⟨x1, x0, (by simpa using World.var?_cell FnDownBack_g1 hv1 0), (by simpa using World.var?_cell FnDownBack_g0 hv0 0)⟩).mono fun e W' ⟨he, bel⟩ => ?_
  subst he
  exact ⟨_, rfl, _, _, _, [], _, _, hW', trodAll_mk1 (shut_bool Tryd.underlying4 _), (trodAll_cons_mk (Below.trod FnDownBack_laidOut (by kernel_rfl) (of_decide_eq_true (by kernel_rfl)) k0 bel lt0) (trodAll_cons_mk (Below.trod FnDownBack_laidOut (by kernel_rfl) (of_decide_eq_true (by kernel_rfl)) k1 bel lt1) trodAll_mk0)), (vars_read2 enc FnDownBack_g0 FnDownBack_t0 Tryd.underlying107 (FnDownBack_var bel hv0) trivial FnDownBack_g1 FnDownBack_t1 Tryd.underlying107 (FnDownBack_var bel hv1) trivial _), bel.frame _, fun h => by cases h⟩
theorem FnDownBack_holds : Rows.FnDownBackSaid :=
  OpenClaim.holds_of_wide 12 Tryd.f12 rfl rfl rfl rfl rfl rfl rfl ⟨rfl, rfl, rfl, rfl, rfl⟩ rfl rfl rfl rfl rfl (by kernel_rfl) Tryd.func12 (by kernel_rfl)
    (of_decide_eq_true (by kernel_rfl)) (by unfold Func.isWrapper; first | (rw [if_pos (by decide +kernel)]; kernel_rfl) | (rw [if_neg (by decide +kernel)]; exact ⟨rfl, rfl⟩))
    (fun os started H enc _ => FnDownBack_lifted os started H enc)
theorem FnDownBack_card : Rows.FnDownBackCardSaid :=
  Claim7.holds_tied_plain_at .later [] [.sentinel, .sentinel] true (true, "d4916f3d9a9138b16cf3363f0ab1195dfe45625b95ab6948d0d5fdd4665c0b46") false
    FnDownBack_holds (fun _ h => by cases h) (by kernel_rfl) (fun _ h => by cases h) fnDownBack_row_tie rfl ⟨rfl, rfl⟩ (by kernel_rfl) rfl
    (fun f fn hf hfn => by
      obtain rfl : f = 12 := Option.some.inj ((show Tryd.prog.funcNamed "loop.example/skyway/laws.FnDownBack" = some 12 by kernel_rfl).symm.trans hf) |>.symm
      obtain rfl : fn = Tryd.f12 := (Option.some.inj (Tryd.func12.symm.trans hfn)).symm
      exact ⟨by kernel_rfl, fun j t ht => by
        rw [Tryd.params12] at ht
        have hm : t ∈ ([39, 39] : List TypeId) := by simpa using Array.mem_of_getElem? ht
        have hall : (([39, 39] : List TypeId).all fun u => !Tryd.prog.wantsStandIn u) = true := by kernel_rfl
        exact (show Tryd.prog.wantsStandIn t = false by simpa using List.all_eq_true.1 hall t hm)⟩)
    (by kernel_rfl)
#print axioms FnDownBack_card
end Go.Proofs.YtccpdadabndleaaDoor
