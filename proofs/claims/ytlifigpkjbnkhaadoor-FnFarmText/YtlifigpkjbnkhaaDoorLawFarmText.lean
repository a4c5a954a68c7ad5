/- Proved: laws.FnFarmText returns true at every two slices of bytes (how it stands is read back from four bytes), and leaves them as they were, as a tied card: the two errors of impl hold what the program's text lays in them. No other condition. -/
import Derived.Test.YtlifigpkjbnkhaaDoorDrawZ
import Derived.Test.YtlifigpkjbnkhaaDoorFmG
import Derived.Test.YtlifigpkjbnkhaaDoorCards
import Derived.Test.YtlifigpkjbnkhaaDoorTie
import Derived.LaidMore
import Derived.Stop.LaidErr
import Derived.Stop.Joined
import Derived.Stop.ErrReads
import Derived.SevenTiedAt
import Derived.OpenShut
import Derived.ShutString
namespace Go.Proofs.YtlifigpkjbnkhaaDoor
open Go.ChangeShapes Go.WideShapes Go.ChangeAt Go.RowKit
open Go.ChangeMaps (open_string shut_string)
set_option linter.unusedVariables false

theorem flags_bits {s wt ag : Bool} {c : Int} (h0 : 0 ≤ c) (h3 : c ≤ 3) :
    decide ((UInt8.ofNat (flagsOf s wt ag c).toNat).toNat / 32 % 2 = 1) = s ∧ decide ((UInt8.ofNat (flagsOf s wt ag c).toNat).toNat / 16 % 2 = 1) = wt ∧ decide ((UInt8.ofNat (flagsOf s wt ag c).toNat).toNat / 8 % 2 = 1) = ag ∧ (((UInt8.ofNat (flagsOf s wt ag c).toNat).toNat : Int) / 2 % 4) = c := by
  have hc : c = 0 ∨ c = 1 ∨ c = 2 ∨ c = 3 := by omega
  rcases hc with rfl | rfl | rfl | rfl <;> cases s <;> cases wt <;> cases ag <;> decide
theorem fat_back {s wt ag : Bool} {c n : Int} : fatOk (faPut s wt ag c n) = faOk wt ag c n ∧ (faOk wt ag c n = true → fatV (faPut s wt ag c n) = .agg #[.bool s, .bool wt, .bool ag, .int .i64 c, .int .i64 n]) := by
  cases h : faOk wt ag c n with
  | false =>
    have e : faPut s wt ag c n = ⟨#[]⟩ := by unfold faPut; rw [h]; rfl
    rw [e]
    exact ⟨by simp [fatOk]; intro h; exact absurd h (by decide), fun h => by cases h⟩
  | true =>
    obtain ⟨h0, h3, n0, n1⟩ := faOk_bounds h
    have e : faPut s wt ag c n = fpT (flagsOf s wt ag c) n := by unfold faPut; rw [if_pos h]
    obtain ⟨b1, b2, b3, b4⟩ := flags_bits (s := s) (wt := wt) (ag := ag) h0 h3
    have e2 : byteAt (fpT (flagsOf s wt ag c) n) 2 = (UInt8.ofNat (flagsOf s wt ag c).toNat).toNat := rfl
    have e3 : ((byteAt (fpT (flagsOf s wt ag c) n) 3 : Nat) : Int) = n := by
      show (((UInt8.ofNat n.toNat).toNat : Nat) : Int) = n
      rw [UInt8.toNat_ofNat']
      omega
    have hok : fatOk (faPut s wt ag c n) = true := by
      rw [e]; unfold fatOk; rw [e2, e3, b1, b2, b3, b4, e]
      simp [fpT_size]
    refine ⟨hok, fun _ => ?_⟩
    unfold fatV
    rw [if_pos hok, e, e2, e3, b1, b2, b3, b4]
theorem fat_forth {t : ByteArray} {s wt ag : Bool} {c n : Int} (h : fatOk t = true) (hv : fatV t = .agg #[.bool s, .bool wt, .bool ag, .int .i64 c, .int .i64 n]) : faPut s wt ag c n = t := by
  unfold fatV at hv
  rw [if_pos h] at hv
  simp only [Value.agg.injEq, Array.mk.injEq, List.cons.injEq, Value.bool.injEq, Value.int.injEq, true_and, and_true] at hv
  obtain ⟨rfl, rfl, rfl, rfl, rfl⟩ := hv
  simp only [fatOk, Bool.and_eq_true, decide_eq_true_eq] at h
  exact h.2
set_option maxRecDepth 100000 in
set_option maxHeartbeats 4000000 in
theorem FnFarmText_walk (a0 : Option Addr) (l0 c0 : Nat) (z0 : List Int) (a1 : Option Addr) (l1 c1 : Nat) (z1 : List Int) (w : World) (h0 : IsRow .u8 w a0 l0 c0 z0) (h1 : IsRow .u8 w a1 l1 c1 z1) (he : Errs w) :
    Calls Tryd.prog 5 #[.slice a0 l0 c0, .slice a1 l1 c1] w fun e w' => e = .returned (.bool true) ∧ Below w.heap.size w w' := by
  by_cases hb0 : 1048576 < (l0 : Int)
  · go_enter Tryd.func5, Tryd.ntmps5
    go_wp2_with fail
    go_ret
    exact ⟨rfl, Below.refl _ _⟩
  by_cases hb1 : 1048576 < (l1 : Int)
  · go_enter Tryd.func5, Tryd.ntmps5
    go_wp2_with fail
    go_ret
    exact ⟨rfl, Below.refl _ _⟩
  have R0 : Hid _ := h0
  have R1 : Hid _ := h1
  have HE : Hid (Errs w) := he
  have HB : Hid (Below w.heap.size w w) := Below.refl _ _
  clear h0 h1 he
  go_enter Tryd.func5, Tryd.ntmps5
  go_wp2_with fail
  refine (DrawFarmPut_any a0 l0 c0 z0 _ R0.out).mono ?_
  rintro e w1 ⟨s, wt, ag, c, n, hn0, hn1, rfl, hb⟩
  replace HB : Hid (Below w.heap.size w w1) := HB.out.trans (hb.mono HB.out.size)
  replace HE : Hid (Errs w1) := HE.out.below hb
  replace R0 : Hid (IsRow .u8 w1 a0 l0 c0 z0) := IsRow.keep R0.out hb
  replace R1 : Hid (IsRow .u8 w1 a1 l1 c1 z1) := IsRow.keep R1.out hb
  clear hb
  have F : Hid ((w1.alloc (.cells #[.bool s, .bool wt, .bool ag, .int .i64 c, .int .i64 n] 29)).heap[w1.heap.size]? = some (.cells #[.bool s, .bool wt, .bool ag, .int .i64 c, .int .i64 n] 29)) := get_new rfl
  replace HB : Hid (Below w.heap.size w (w1.alloc (.cells #[.bool s, .bool wt, .bool ag, .int .i64 c, .int .i64 n] 29))) := HB.out.alloc HB.out.size _
  replace HE : Hid (Errs (w1.alloc (.cells #[.bool s, .bool wt, .bool ag, .int .i64 c, .int .i64 n] 29))) := HE.out.below ((Below.refl _ _).alloc (Nat.le_refl _) _)
  replace R0 : Hid (IsRow .u8 (w1.alloc (.cells #[.bool s, .bool wt, .bool ag, .int .i64 c, .int .i64 n] 29)) a0 l0 c0 z0) := IsRow.keep R0.out ((Below.refl _ _).alloc (Nat.le_refl _) _)
  replace R1 : Hid (IsRow .u8 (w1.alloc (.cells #[.bool s, .bool wt, .bool ag, .int .i64 c, .int .i64 n] 29)) a1 l1 c1 z1) := IsRow.keep R1.out ((Below.refl _ _).alloc (Nat.le_refl _) _)
  go_wp2_with fail
  refine (implFarmPut_any _ _ _ _ _ _).mono ?_
  rintro e w2 ⟨rfl, hb⟩
  replace F : Hid (w2.heap[w1.heap.size]? = some (.cells #[.bool s, .bool wt, .bool ag, .int .i64 c, .int .i64 n] 29)) := get_below hb F.out (size_of_get F.out)
  replace HB : Hid (Below w.heap.size w w2) := HB.out.trans (hb.mono HB.out.size)
  replace HE : Hid (Errs w2) := HE.out.below hb
  replace R0 : Hid (IsRow .u8 w2 a0 l0 c0 z0) := IsRow.keep R0.out hb
  replace R1 : Hid (IsRow .u8 w2 a1 l1 c1 z1) := IsRow.keep R1.out hb
  clear hb
  obtain ⟨bk1, bk2⟩ := fat_back (s := s) (wt := wt) (ag := ag) (c := c) (n := n)
  have hsz := faPut_size s wt ag c n
  have HSP : Hid (∀ W, Calls Tryd.prog 16 #[.agg #[.bool s, .bool wt, .bool ag, .int .i64 c, .int .i64 n]] W fun e w' => e = .returned (.string (faPut s wt ag c n)) ∧ Below W.heap.size W w') := fun W => specFarmPut_any _ _ _ _ _ _
  have hml : (faPut s wt ag c n).size ≤ maxLen := by unfold maxLen; omega
  generalize faPut s wt ag c n = t at *
  obtain ⟨s1, wt1, ag1, cc1, n1, hv1⟩ := fatV_agg t
  have HI1 : Hid (∀ W, Errs W → Calls Tryd.prog 12 #[.string t] W fun e w' => e = .returned (.tuple #[.agg #[.bool s1, .bool wt1, .bool ag1, .int .i64 cc1, .int .i64 n1], .bool (faOk wt ag c n)]) ∧ Below W.heap.size W w') := fun W he => by
    have := implFarmGet_any t W hml he
    rw [hv1, bk1] at this; exact this
  have HBK : Hid _ := bk2
  have HV1 : Hid _ := hv1
  clear bk1 bk2 hv1
  have HFO : Hid (∀ W, Calls Tryd.prog 17 #[.agg #[.bool s, .bool wt, .bool ag, .int .i64 c, .int .i64 n]] W fun e w' => e = .returned (.bool (faOk wt ag c n)) ∧ Below W.heap.size W w') := fun W => specFarmOk_any _ _ _ _ _ _
  go_wp2_with fail
  refine Calls.mono (HI1.out _ HE.out) ?_
  rintro e w3 ⟨rfl, hb⟩
  replace F : Hid (w3.heap[w1.heap.size]? = some (.cells #[.bool s, .bool wt, .bool ag, .int .i64 c, .int .i64 n] 29)) := get_below hb F.out (size_of_get F.out)
  replace HB : Hid (Below w.heap.size w w3) := HB.out.trans (hb.mono HB.out.size)
  replace HE : Hid (Errs w3) := HE.out.below hb
  replace R0 : Hid (IsRow .u8 w3 a0 l0 c0 z0) := IsRow.keep R0.out hb
  replace R1 : Hid (IsRow .u8 w3 a1 l1 c1 z1) := IsRow.keep R1.out hb
  clear hb
  replace F : Hid ((w3.alloc (.cells #[.bool s1, .bool wt1, .bool ag1, .int .i64 cc1, .int .i64 n1] 29)).heap[w1.heap.size]? = some (.cells #[.bool s, .bool wt, .bool ag, .int .i64 c, .int .i64 n] 29)) := get_alloc F.out (size_of_get F.out)
  have X : Hid ((w3.alloc (.cells #[.bool s1, .bool wt1, .bool ag1, .int .i64 cc1, .int .i64 n1] 29)).heap[w3.heap.size]? = some (.cells #[.bool s1, .bool wt1, .bool ag1, .int .i64 cc1, .int .i64 n1] 29)) := get_new rfl
  replace HB : Hid (Below w.heap.size w (w3.alloc (.cells #[.bool s1, .bool wt1, .bool ag1, .int .i64 cc1, .int .i64 n1] 29))) := HB.out.alloc HB.out.size _
  replace HE : Hid (Errs (w3.alloc (.cells #[.bool s1, .bool wt1, .bool ag1, .int .i64 cc1, .int .i64 n1] 29))) := HE.out.below ((Below.refl _ _).alloc (Nat.le_refl _) _)
  replace R0 : Hid (IsRow .u8 (w3.alloc (.cells #[.bool s1, .bool wt1, .bool ag1, .int .i64 cc1, .int .i64 n1] 29)) a0 l0 c0 z0) := IsRow.keep R0.out ((Below.refl _ _).alloc (Nat.le_refl _) _)
  replace R1 : Hid (IsRow .u8 (w3.alloc (.cells #[.bool s1, .bool wt1, .bool ag1, .int .i64 cc1, .int .i64 n1] 29)) a1 l1 c1 z1) := IsRow.keep R1.out ((Below.refl _ _).alloc (Nat.le_refl _) _)
  obtain ⟨F_0, F_1, F_2, F_3, F_4⟩ := cells5_of F.out
  go_wp2_with fail
  clear F_0 F_1 F_2 F_3 F_4
  refine Calls.mono (HSP.out _) ?_
  rintro e w4 ⟨rfl, hb⟩
  replace F : Hid (w4.heap[w1.heap.size]? = some (.cells #[.bool s, .bool wt, .bool ag, .int .i64 c, .int .i64 n] 29)) := get_below hb F.out (size_of_get F.out)
  replace X : Hid (w4.heap[w3.heap.size]? = some (.cells #[.bool s1, .bool wt1, .bool ag1, .int .i64 cc1, .int .i64 n1] 29)) := get_below hb X.out (size_of_get X.out)
  replace HB : Hid (Below w.heap.size w w4) := HB.out.trans (hb.mono HB.out.size)
  replace HE : Hid (Errs w4) := HE.out.below hb
  replace R0 : Hid (IsRow .u8 w4 a0 l0 c0 z0) := IsRow.keep R0.out hb
  replace R1 : Hid (IsRow .u8 w4 a1 l1 c1 z1) := IsRow.keep R1.out hb
  clear hb
  have hteq : (t.toList == t.toList) = true := by simp
  cases hf : faOk wt ag c n with
  | false =>
    have HFO : Hid (∀ W, Calls Tryd.prog 17 #[.agg #[.bool s, .bool wt, .bool ag, .int .i64 c, .int .i64 n]] W fun e w' => e = .returned (.bool false) ∧ Below W.heap.size W w') := by rw [← hf]; exact HFO
    clear hf
    obtain ⟨F_0, F_1, F_2, F_3, F_4⟩ := cells5_of F.out
    obtain ⟨X_0, X_1, X_2, X_3, X_4⟩ := cells5_of X.out
    go_wp2_with fail
    clear F_0 F_1 F_2 F_3 F_4
    clear X_0 X_1 X_2 X_3 X_4
    refine Calls.mono (HFO.out _) ?_
    rintro e w5 ⟨rfl, hb⟩
    replace F : Hid (w5.heap[w1.heap.size]? = some (.cells #[.bool s, .bool wt, .bool ag, .int .i64 c, .int .i64 n] 29)) := get_below hb F.out (size_of_get F.out)
    replace X : Hid (w5.heap[w3.heap.size]? = some (.cells #[.bool s1, .bool wt1, .bool ag1, .int .i64 cc1, .int .i64 n1] 29)) := get_below hb X.out (size_of_get X.out)
    replace HB : Hid (Below w.heap.size w w5) := HB.out.trans (hb.mono HB.out.size)
    replace HE : Hid (Errs w5) := HE.out.below hb
    replace R0 : Hid (IsRow .u8 w5 a0 l0 c0 z0) := IsRow.keep R0.out hb
    replace R1 : Hid (IsRow .u8 w5 a1 l1 c1 z1) := IsRow.keep R1.out hb
    clear hb
    obtain ⟨F_0, F_1, F_2, F_3, F_4⟩ := cells5_of F.out
    obtain ⟨X_0, X_1, X_2, X_3, X_4⟩ := cells5_of X.out
    go_wp2_with fail
    clear F_0 F_1 F_2 F_3 F_4
    clear X_0 X_1 X_2 X_3 X_4
    refine (DrawFarmGet_any a1 l1 c1 z1 _ R1.out).mono ?_
    rintro e w6 ⟨u, hu, rfl, hb⟩
    replace F : Hid (w6.heap[w1.heap.size]? = some (.cells #[.bool s, .bool wt, .bool ag, .int .i64 c, .int .i64 n] 29)) := get_below hb F.out (size_of_get F.out)
    replace X : Hid (w6.heap[w3.heap.size]? = some (.cells #[.bool s1, .bool wt1, .bool ag1, .int .i64 cc1, .int .i64 n1] 29)) := get_below hb X.out (size_of_get X.out)
    replace HB : Hid (Below w.heap.size w w6) := HB.out.trans (hb.mono HB.out.size)
    replace HE : Hid (Errs w6) := HE.out.below hb
    replace R0 : Hid (IsRow .u8 w6 a0 l0 c0 z0) := IsRow.keep R0.out hb
    replace R1 : Hid (IsRow .u8 w6 a1 l1 c1 z1) := IsRow.keep R1.out hb
    clear hb
    have hum : u.size ≤ maxLen := by unfold maxLen; omega
    obtain ⟨s2, wt2, ag2, cc2, n2, hv2⟩ := fatV_agg u
    generalize hok : fatOk u = ok
    have HI2 : Hid (∀ W, Errs W → Calls Tryd.prog 12 #[.string u] W fun e w' => e = .returned (.tuple #[.agg #[.bool s2, .bool wt2, .bool ag2, .int .i64 cc2, .int .i64 n2], .bool ok]) ∧ Below W.heap.size W w') := fun W he => by
      have := implFarmGet_any u W hum he
      rw [hv2, hok] at this; exact this
    have HS2 : Hid (∀ W, Calls Tryd.prog 11 #[.string u] W fun e w' => e = .returned (.tuple #[.agg #[.bool s2, .bool wt2, .bool ag2, .int .i64 cc2, .int .i64 n2], .bool ok]) ∧ Below W.heap.size W w') := fun W => by
      have := specFarmGet_any u W hum
      rw [hv2, hok] at this; exact this
    have HFT : Hid (ok = true → faPut s2 wt2 ag2 cc2 n2 = u) := fun h => fat_forth (hok.trans h) hv2
    clear hok hv2
    go_wp2_with fail
    refine Calls.mono (HI2.out _ HE.out) ?_
    rintro e w7 ⟨rfl, hb⟩
    replace F : Hid (w7.heap[w1.heap.size]? = some (.cells #[.bool s, .bool wt, .bool ag, .int .i64 c, .int .i64 n] 29)) := get_below hb F.out (size_of_get F.out)
    replace X : Hid (w7.heap[w3.heap.size]? = some (.cells #[.bool s1, .bool wt1, .bool ag1, .int .i64 cc1, .int .i64 n1] 29)) := get_below hb X.out (size_of_get X.out)
    replace HB : Hid (Below w.heap.size w w7) := HB.out.trans (hb.mono HB.out.size)
    replace HE : Hid (Errs w7) := HE.out.below hb
    replace R0 : Hid (IsRow .u8 w7 a0 l0 c0 z0) := IsRow.keep R0.out hb
    replace R1 : Hid (IsRow .u8 w7 a1 l1 c1 z1) := IsRow.keep R1.out hb
    clear hb
    replace F : Hid ((w7.alloc (.cells #[.bool s2, .bool wt2, .bool ag2, .int .i64 cc2, .int .i64 n2] 29)).heap[w1.heap.size]? = some (.cells #[.bool s, .bool wt, .bool ag, .int .i64 c, .int .i64 n] 29)) := get_alloc F.out (size_of_get F.out)
    replace X : Hid ((w7.alloc (.cells #[.bool s2, .bool wt2, .bool ag2, .int .i64 cc2, .int .i64 n2] 29)).heap[w3.heap.size]? = some (.cells #[.bool s1, .bool wt1, .bool ag1, .int .i64 cc1, .int .i64 n1] 29)) := get_alloc X.out (size_of_get X.out)
    have Y : Hid ((w7.alloc (.cells #[.bool s2, .bool wt2, .bool ag2, .int .i64 cc2, .int .i64 n2] 29)).heap[w7.heap.size]? = some (.cells #[.bool s2, .bool wt2, .bool ag2, .int .i64 cc2, .int .i64 n2] 29)) := get_new rfl
    replace HB : Hid (Below w.heap.size w (w7.alloc (.cells #[.bool s2, .bool wt2, .bool ag2, .int .i64 cc2, .int .i64 n2] 29))) := HB.out.alloc HB.out.size _
    replace HE : Hid (Errs (w7.alloc (.cells #[.bool s2, .bool wt2, .bool ag2, .int .i64 cc2, .int .i64 n2] 29))) := HE.out.below ((Below.refl _ _).alloc (Nat.le_refl _) _)
    replace R0 : Hid (IsRow .u8 (w7.alloc (.cells #[.bool s2, .bool wt2, .bool ag2, .int .i64 cc2, .int .i64 n2] 29)) a0 l0 c0 z0) := IsRow.keep R0.out ((Below.refl _ _).alloc (Nat.le_refl _) _)
    replace R1 : Hid (IsRow .u8 (w7.alloc (.cells #[.bool s2, .bool wt2, .bool ag2, .int .i64 cc2, .int .i64 n2] 29)) a1 l1 c1 z1) := IsRow.keep R1.out ((Below.refl _ _).alloc (Nat.le_refl _) _)
    go_wp2_with fail
    refine Calls.mono (HS2.out _) ?_
    rintro e w8 ⟨rfl, hb⟩
    replace F : Hid (w8.heap[w1.heap.size]? = some (.cells #[.bool s, .bool wt, .bool ag, .int .i64 c, .int .i64 n] 29)) := get_below hb F.out (size_of_get F.out)
    replace X : Hid (w8.heap[w3.heap.size]? = some (.cells #[.bool s1, .bool wt1, .bool ag1, .int .i64 cc1, .int .i64 n1] 29)) := get_below hb X.out (size_of_get X.out)
    replace Y : Hid (w8.heap[w7.heap.size]? = some (.cells #[.bool s2, .bool wt2, .bool ag2, .int .i64 cc2, .int .i64 n2] 29)) := get_below hb Y.out (size_of_get Y.out)
    replace HB : Hid (Below w.heap.size w w8) := HB.out.trans (hb.mono HB.out.size)
    replace HE : Hid (Errs w8) := HE.out.below hb
    replace R0 : Hid (IsRow .u8 w8 a0 l0 c0 z0) := IsRow.keep R0.out hb
    replace R1 : Hid (IsRow .u8 w8 a1 l1 c1 z1) := IsRow.keep R1.out hb
    clear hb
    replace F : Hid ((w8.alloc (.cells #[.bool s2, .bool wt2, .bool ag2, .int .i64 cc2, .int .i64 n2] 29)).heap[w1.heap.size]? = some (.cells #[.bool s, .bool wt, .bool ag, .int .i64 c, .int .i64 n] 29)) := get_alloc F.out (size_of_get F.out)
    replace X : Hid ((w8.alloc (.cells #[.bool s2, .bool wt2, .bool ag2, .int .i64 cc2, .int .i64 n2] 29)).heap[w3.heap.size]? = some (.cells #[.bool s1, .bool wt1, .bool ag1, .int .i64 cc1, .int .i64 n1] 29)) := get_alloc X.out (size_of_get X.out)
    replace Y : Hid ((w8.alloc (.cells #[.bool s2, .bool wt2, .bool ag2, .int .i64 cc2, .int .i64 n2] 29)).heap[w7.heap.size]? = some (.cells #[.bool s2, .bool wt2, .bool ag2, .int .i64 cc2, .int .i64 n2] 29)) := get_alloc Y.out (size_of_get Y.out)
    have Z : Hid ((w8.alloc (.cells #[.bool s2, .bool wt2, .bool ag2, .int .i64 cc2, .int .i64 n2] 29)).heap[w8.heap.size]? = some (.cells #[.bool s2, .bool wt2, .bool ag2, .int .i64 cc2, .int .i64 n2] 29)) := get_new rfl
    replace HB : Hid (Below w.heap.size w (w8.alloc (.cells #[.bool s2, .bool wt2, .bool ag2, .int .i64 cc2, .int .i64 n2] 29))) := HB.out.alloc HB.out.size _
    replace HE : Hid (Errs (w8.alloc (.cells #[.bool s2, .bool wt2, .bool ag2, .int .i64 cc2, .int .i64 n2] 29))) := HE.out.below ((Below.refl _ _).alloc (Nat.le_refl _) _)
    replace R0 : Hid (IsRow .u8 (w8.alloc (.cells #[.bool s2, .bool wt2, .bool ag2, .int .i64 cc2, .int .i64 n2] 29)) a0 l0 c0 z0) := IsRow.keep R0.out ((Below.refl _ _).alloc (Nat.le_refl _) _)
    replace R1 : Hid (IsRow .u8 (w8.alloc (.cells #[.bool s2, .bool wt2, .bool ag2, .int .i64 cc2, .int .i64 n2] 29)) a1 l1 c1 z1) := IsRow.keep R1.out ((Below.refl _ _).alloc (Nat.le_refl _) _)
    cases ok with
    | false =>
      obtain ⟨Y_0, Y_1, Y_2, Y_3, Y_4⟩ := cells5_of Y.out
      obtain ⟨Z_0, Z_1, Z_2, Z_3, Z_4⟩ := cells5_of Z.out
      go_wp2_with fail
      clear Y_0 Y_1 Y_2 Y_3 Y_4
      clear Z_0 Z_1 Z_2 Z_3 Z_4
      go_ret
      exact ⟨rfl, HB.out⟩
    | true =>
      have hft := HFT.out rfl
      have HFP : Hid (∀ W, Calls Tryd.prog 15 #[.agg #[.bool s2, .bool wt2, .bool ag2, .int .i64 cc2, .int .i64 n2]] W fun e w' => e = .returned (.string u) ∧ Below W.heap.size W w') := fun W => by
        have := implFarmPut_any s2 wt2 ag2 cc2 n2 W
        rw [hft] at this; exact this
      clear hft
      have hueq : (u.toList == u.toList) = true := by simp
      obtain ⟨Y_0, Y_1, Y_2, Y_3, Y_4⟩ := cells5_of Y.out
      obtain ⟨Z_0, Z_1, Z_2, Z_3, Z_4⟩ := cells5_of Z.out
      go_wp2_with fail
      clear Y_0 Y_1 Y_2 Y_3 Y_4
      clear Z_0 Z_1 Z_2 Z_3 Z_4
      refine Calls.mono (HFP.out _) ?_
      rintro e w9 ⟨rfl, hb⟩
      replace F : Hid (w9.heap[w1.heap.size]? = some (.cells #[.bool s, .bool wt, .bool ag, .int .i64 c, .int .i64 n] 29)) := get_below hb F.out (size_of_get F.out)
      replace X : Hid (w9.heap[w3.heap.size]? = some (.cells #[.bool s1, .bool wt1, .bool ag1, .int .i64 cc1, .int .i64 n1] 29)) := get_below hb X.out (size_of_get X.out)
      replace Y : Hid (w9.heap[w7.heap.size]? = some (.cells #[.bool s2, .bool wt2, .bool ag2, .int .i64 cc2, .int .i64 n2] 29)) := get_below hb Y.out (size_of_get Y.out)
      replace Z : Hid (w9.heap[w8.heap.size]? = some (.cells #[.bool s2, .bool wt2, .bool ag2, .int .i64 cc2, .int .i64 n2] 29)) := get_below hb Z.out (size_of_get Z.out)
      replace HB : Hid (Below w.heap.size w w9) := HB.out.trans (hb.mono HB.out.size)
      replace HE : Hid (Errs w9) := HE.out.below hb
      replace R0 : Hid (IsRow .u8 w9 a0 l0 c0 z0) := IsRow.keep R0.out hb
      replace R1 : Hid (IsRow .u8 w9 a1 l1 c1 z1) := IsRow.keep R1.out hb
      clear hb
      go_wp2_with fail
      go_ret
      exact ⟨rfl, HB.out⟩
  | true =>
    have HFO : Hid (∀ W, Calls Tryd.prog 17 #[.agg #[.bool s, .bool wt, .bool ag, .int .i64 c, .int .i64 n]] W fun e w' => e = .returned (.bool true) ∧ Below W.heap.size W w') := by rw [← hf]; exact HFO
    have hx := (HBK.out hf).symm.trans HV1.out
    simp only [Value.agg.injEq, Array.mk.injEq, List.cons.injEq, Value.bool.injEq, Value.int.injEq, true_and, and_true] at hx
    obtain ⟨rfl, rfl, rfl, rfl, rfl⟩ := hx
    clear hf
    obtain ⟨F_0, F_1, F_2, F_3, F_4⟩ := cells5_of F.out
    obtain ⟨X_0, X_1, X_2, X_3, X_4⟩ := cells5_of X.out
    go_wp2_with fail
    clear F_0 F_1 F_2 F_3 F_4
    clear X_0 X_1 X_2 X_3 X_4
    refine Calls.mono (HFO.out _) ?_
    rintro e w5 ⟨rfl, hb⟩
    replace F : Hid (w5.heap[w1.heap.size]? = some (.cells #[.bool s, .bool wt, .bool ag, .int .i64 c, .int .i64 n] 29)) := get_below hb F.out (size_of_get F.out)
    replace X : Hid (w5.heap[w3.heap.size]? = some (.cells #[.bool s, .bool wt, .bool ag, .int .i64 c, .int .i64 n] 29)) := get_below hb X.out (size_of_get X.out)
    replace HB : Hid (Below w.heap.size w w5) := HB.out.trans (hb.mono HB.out.size)
    replace HE : Hid (Errs w5) := HE.out.below hb
    replace R0 : Hid (IsRow .u8 w5 a0 l0 c0 z0) := IsRow.keep R0.out hb
    replace R1 : Hid (IsRow .u8 w5 a1 l1 c1 z1) := IsRow.keep R1.out hb
    clear hb
    obtain ⟨F_0, F_1, F_2, F_3, F_4⟩ := cells5_of F.out
    obtain ⟨X_0, X_1, X_2, X_3, X_4⟩ := cells5_of X.out
    go_wp2_with fail
    clear F_0 F_1 F_2 F_3 F_4
    clear X_0 X_1 X_2 X_3 X_4
    refine (DrawFarmGet_any a1 l1 c1 z1 _ R1.out).mono ?_
    rintro e w6 ⟨u, hu, rfl, hb⟩
    replace F : Hid (w6.heap[w1.heap.size]? = some (.cells #[.bool s, .bool wt, .bool ag, .int .i64 c, .int .i64 n] 29)) := get_below hb F.out (size_of_get F.out)
    replace X : Hid (w6.heap[w3.heap.size]? = some (.cells #[.bool s, .bool wt, .bool ag, .int .i64 c, .int .i64 n] 29)) := get_below hb X.out (size_of_get X.out)
    replace HB : Hid (Below w.heap.size w w6) := HB.out.trans (hb.mono HB.out.size)
    replace HE : Hid (Errs w6) := HE.out.below hb
    replace R0 : Hid (IsRow .u8 w6 a0 l0 c0 z0) := IsRow.keep R0.out hb
    replace R1 : Hid (IsRow .u8 w6 a1 l1 c1 z1) := IsRow.keep R1.out hb
    clear hb
    have hum : u.size ≤ maxLen := by unfold maxLen; omega
    obtain ⟨s2, wt2, ag2, cc2, n2, hv2⟩ := fatV_agg u
    generalize hok : fatOk u = ok
    have HI2 : Hid (∀ W, Errs W → Calls Tryd.prog 12 #[.string u] W fun e w' => e = .returned (.tuple #[.agg #[.bool s2, .bool wt2, .bool ag2, .int .i64 cc2, .int .i64 n2], .bool ok]) ∧ Below W.heap.size W w') := fun W he => by
      have := implFarmGet_any u W hum he
      rw [hv2, hok] at this; exact this
    have HS2 : Hid (∀ W, Calls Tryd.prog 11 #[.string u] W fun e w' => e = .returned (.tuple #[.agg #[.bool s2, .bool wt2, .bool ag2, .int .i64 cc2, .int .i64 n2], .bool ok]) ∧ Below W.heap.size W w') := fun W => by
      have := specFarmGet_any u W hum
      rw [hv2, hok] at this; exact this
    have HFT : Hid (ok = true → faPut s2 wt2 ag2 cc2 n2 = u) := fun h => fat_forth (hok.trans h) hv2
    clear hok hv2
    go_wp2_with fail
    refine Calls.mono (HI2.out _ HE.out) ?_
    rintro e w7 ⟨rfl, hb⟩
    replace F : Hid (w7.heap[w1.heap.size]? = some (.cells #[.bool s, .bool wt, .bool ag, .int .i64 c, .int .i64 n] 29)) := get_below hb F.out (size_of_get F.out)
    replace X : Hid (w7.heap[w3.heap.size]? = some (.cells #[.bool s, .bool wt, .bool ag, .int .i64 c, .int .i64 n] 29)) := get_below hb X.out (size_of_get X.out)
    replace HB : Hid (Below w.heap.size w w7) := HB.out.trans (hb.mono HB.out.size)
    replace HE : Hid (Errs w7) := HE.out.below hb
    replace R0 : Hid (IsRow .u8 w7 a0 l0 c0 z0) := IsRow.keep R0.out hb
    replace R1 : Hid (IsRow .u8 w7 a1 l1 c1 z1) := IsRow.keep R1.out hb
    clear hb
    replace F : Hid ((w7.alloc (.cells #[.bool s2, .bool wt2, .bool ag2, .int .i64 cc2, .int .i64 n2] 29)).heap[w1.heap.size]? = some (.cells #[.bool s, .bool wt, .bool ag, .int .i64 c, .int .i64 n] 29)) := get_alloc F.out (size_of_get F.out)
    replace X : Hid ((w7.alloc (.cells #[.bool s2, .bool wt2, .bool ag2, .int .i64 cc2, .int .i64 n2] 29)).heap[w3.heap.size]? = some (.cells #[.bool s, .bool wt, .bool ag, .int .i64 c, .int .i64 n] 29)) := get_alloc X.out (size_of_get X.out)
    have Y : Hid ((w7.alloc (.cells #[.bool s2, .bool wt2, .bool ag2, .int .i64 cc2, .int .i64 n2] 29)).heap[w7.heap.size]? = some (.cells #[.bool s2, .bool wt2, .bool ag2, .int .i64 cc2, .int .i64 n2] 29)) := get_new rfl
    replace HB : Hid (Below w.heap.size w (w7.alloc (.cells #[.bool s2, .bool wt2, .bool ag2, .int .i64 cc2, .int .i64 n2] 29))) := HB.out.alloc HB.out.size _
    replace HE : Hid (Errs (w7.alloc (.cells #[.bool s2, .bool wt2, .bool ag2, .int .i64 cc2, .int .i64 n2] 29))) := HE.out.below ((Below.refl _ _).alloc (Nat.le_refl _) _)
    replace R0 : Hid (IsRow .u8 (w7.alloc (.cells #[.bool s2, .bool wt2, .bool ag2, .int .i64 cc2, .int .i64 n2] 29)) a0 l0 c0 z0) := IsRow.keep R0.out ((Below.refl _ _).alloc (Nat.le_refl _) _)
    replace R1 : Hid (IsRow .u8 (w7.alloc (.cells #[.bool s2, .bool wt2, .bool ag2, .int .i64 cc2, .int .i64 n2] 29)) a1 l1 c1 z1) := IsRow.keep R1.out ((Below.refl _ _).alloc (Nat.le_refl _) _)
    go_wp2_with fail
    refine Calls.mono (HS2.out _) ?_
    rintro e w8 ⟨rfl, hb⟩
    replace F : Hid (w8.heap[w1.heap.size]? = some (.cells #[.bool s, .bool wt, .bool ag, .int .i64 c, .int .i64 n] 29)) := get_below hb F.out (size_of_get F.out)
    replace X : Hid (w8.heap[w3.heap.size]? = some (.cells #[.bool s, .bool wt, .bool ag, .int .i64 c, .int .i64 n] 29)) := get_below hb X.out (size_of_get X.out)
    replace Y : Hid (w8.heap[w7.heap.size]? = some (.cells #[.bool s2, .bool wt2, .bool ag2, .int .i64 cc2, .int .i64 n2] 29)) := get_below hb Y.out (size_of_get Y.out)
    replace HB : Hid (Below w.heap.size w w8) := HB.out.trans (hb.mono HB.out.size)
    replace HE : Hid (Errs w8) := HE.out.below hb
    replace R0 : Hid (IsRow .u8 w8 a0 l0 c0 z0) := IsRow.keep R0.out hb
    replace R1 : Hid (IsRow .u8 w8 a1 l1 c1 z1) := IsRow.keep R1.out hb
    clear hb
    replace F : Hid ((w8.alloc (.cells #[.bool s2, .bool wt2, .bool ag2, .int .i64 cc2, .int .i64 n2] 29)).heap[w1.heap.size]? = some (.cells #[.bool s, .bool wt, .bool ag, .int .i64 c, .int .i64 n] 29)) := get_alloc F.out (size_of_get F.out)
    replace X : Hid ((w8.alloc (.cells #[.bool s2, .bool wt2, .bool ag2, .int .i64 cc2, .int .i64 n2] 29)).heap[w3.heap.size]? = some (.cells #[.bool s, .bool wt, .bool ag, .int .i64 c, .int .i64 n] 29)) := get_alloc X.out (size_of_get X.out)
    replace Y : Hid ((w8.alloc (.cells #[.bool s2, .bool wt2, .bool ag2, .int .i64 cc2, .int .i64 n2] 29)).heap[w7.heap.size]? = some (.cells #[.bool s2, .bool wt2, .bool ag2, .int .i64 cc2, .int .i64 n2] 29)) := get_alloc Y.out (size_of_get Y.out)
    have Z : Hid ((w8.alloc (.cells #[.bool s2, .bool wt2, .bool ag2, .int .i64 cc2, .int .i64 n2] 29)).heap[w8.heap.size]? = some (.cells #[.bool s2, .bool wt2, .bool ag2, .int .i64 cc2, .int .i64 n2] 29)) := get_new rfl
    replace HB : Hid (Below w.heap.size w (w8.alloc (.cells #[.bool s2, .bool wt2, .bool ag2, .int .i64 cc2, .int .i64 n2] 29))) := HB.out.alloc HB.out.size _
    replace HE : Hid (Errs (w8.alloc (.cells #[.bool s2, .bool wt2, .bool ag2, .int .i64 cc2, .int .i64 n2] 29))) := HE.out.below ((Below.refl _ _).alloc (Nat.le_refl _) _)
    replace R0 : Hid (IsRow .u8 (w8.alloc (.cells #[.bool s2, .bool wt2, .bool ag2, .int .i64 cc2, .int .i64 n2] 29)) a0 l0 c0 z0) := IsRow.keep R0.out ((Below.refl _ _).alloc (Nat.le_refl _) _)
    replace R1 : Hid (IsRow .u8 (w8.alloc (.cells #[.bool s2, .bool wt2, .bool ag2, .int .i64 cc2, .int .i64 n2] 29)) a1 l1 c1 z1) := IsRow.keep R1.out ((Below.refl _ _).alloc (Nat.le_refl _) _)
    cases ok with
    | false =>
      obtain ⟨Y_0, Y_1, Y_2, Y_3, Y_4⟩ := cells5_of Y.out
      obtain ⟨Z_0, Z_1, Z_2, Z_3, Z_4⟩ := cells5_of Z.out
      go_wp2_with fail
      clear Y_0 Y_1 Y_2 Y_3 Y_4
      clear Z_0 Z_1 Z_2 Z_3 Z_4
      go_ret
      exact ⟨rfl, HB.out⟩
    | true =>
      have hft := HFT.out rfl
      have HFP : Hid (∀ W, Calls Tryd.prog 15 #[.agg #[.bool s2, .bool wt2, .bool ag2, .int .i64 cc2, .int .i64 n2]] W fun e w' => e = .returned (.string u) ∧ Below W.heap.size W w') := fun W => by
        have := implFarmPut_any s2 wt2 ag2 cc2 n2 W
        rw [hft] at this; exact this
      clear hft
      have hueq : (u.toList == u.toList) = true := by simp
      obtain ⟨Y_0, Y_1, Y_2, Y_3, Y_4⟩ := cells5_of Y.out
      obtain ⟨Z_0, Z_1, Z_2, Z_3, Z_4⟩ := cells5_of Z.out
      go_wp2_with fail
      clear Y_0 Y_1 Y_2 Y_3 Y_4
      clear Z_0 Z_1 Z_2 Z_3 Z_4
      refine Calls.mono (HFP.out _) ?_
      rintro e w9 ⟨rfl, hb⟩
      replace F : Hid (w9.heap[w1.heap.size]? = some (.cells #[.bool s, .bool wt, .bool ag, .int .i64 c, .int .i64 n] 29)) := get_below hb F.out (size_of_get F.out)
      replace X : Hid (w9.heap[w3.heap.size]? = some (.cells #[.bool s, .bool wt, .bool ag, .int .i64 c, .int .i64 n] 29)) := get_below hb X.out (size_of_get X.out)
      replace Y : Hid (w9.heap[w7.heap.size]? = some (.cells #[.bool s2, .bool wt2, .bool ag2, .int .i64 cc2, .int .i64 n2] 29)) := get_below hb Y.out (size_of_get Y.out)
      replace Z : Hid (w9.heap[w8.heap.size]? = some (.cells #[.bool s2, .bool wt2, .bool ag2, .int .i64 cc2, .int .i64 n2] 29)) := get_below hb Z.out (size_of_get Z.out)
      replace HB : Hid (Below w.heap.size w w9) := HB.out.trans (hb.mono HB.out.size)
      replace HE : Hid (Errs w9) := HE.out.below hb
      replace R0 : Hid (IsRow .u8 w9 a0 l0 c0 z0) := IsRow.keep R0.out hb
      replace R1 : Hid (IsRow .u8 w9 a1 l1 c1 z1) := IsRow.keep R1.out hb
      clear hb
      go_wp2_with fail
      go_ret
      exact ⟨rfl, HB.out⟩
theorem FnFarmText_g0 : Tryd.prog.globalNamed "loop.example/skyway/impl.errShort" = some 1 := by kernel_rfl
theorem FnFarmText_t0 : (Tryd.prog.globals[1]?).map (·.type) = some 45 := by kernel_rfl
theorem FnFarmText_g1 : Tryd.prog.globalNamed "loop.example/skyway/impl.errOther" = some 0 := by kernel_rfl
theorem FnFarmText_t1 : (Tryd.prog.globals[0]?).map (·.type) = some 45 := by kernel_rfl
theorem FnFarmText_star : "*" ++ "errors.errorString" = "*errors.errorString" := by decide
theorem FnFarmText_rowP (u : TypeId) (h : Tryd.prog.typeName? 3 u = some "*errors.errorString") : u = 94 :=
  typeName_ptr_named (nm := "errors.errorString") (by rw [FnFarmText_star]; kernel_rfl) (by kernel_rfl) (by decide) u (by rw [FnFarmText_star]; exact h)
theorem FnFarmText_c1 : Tryd.prog.cellsOf 112 = 1 := by kernel_rfl
theorem FnFarmText_c2 : Tryd.prog.cellsOf 9 = 1 := by kernel_rfl
def FnFarmText_list : List (String × DataW Unit) := [("loop.example/skyway/impl.errShort", Rows.laid_loop_example_skyway_impl_errShort), ("loop.example/skyway/impl.errOther", Rows.laid_loop_example_skyway_impl_errOther)]
theorem FnFarmText_met (os : Os) (args : Array Value) : laidMetH Tryd.prog FnFarmText_list ((World.doorLaid Tryd.prog 400 os).forCall (fun _ _ => 0) ⟨#[], args, []⟩).memory :=
  laidMetH_of_parts3 (fuel := 8) (laidMet_of_run' 8 (by kernel_rfl) (by kernel_rfl)) (by kernel_rfl) (by kernel_rfl)
theorem FnFarmText_var {W W' : World} {n : String} {cs : Array Value} (k : Below W.heap.size W W') (h : W.var? Tryd.prog n = some cs) : W'.var? Tryd.prog n = some cs := by
  unfold World.var? at h ⊢
  cases hg : Tryd.prog.globalNamed n with
  | none => simp [hg] at h
  | some g =>
    simp only [hg, Option.bind_some] at h ⊢
    have hlt : g < W.heap.size := by
      rcases Nat.lt_or_ge g W.heap.size with h' | h'
      · exact h'
      · simp [Array.getElem?_eq_none h'] at h
    rw [k.block g hlt]; exact h
theorem FnFarmText_of {W : World} (h : laidMetH Tryd.prog FnFarmText_list W) : ∃ x0 x1 : Addr, W.var? Tryd.prog "loop.example/skyway/impl.errShort" = some #[.iface 94 (.pointer (some x0))] ∧ W.var? Tryd.prog "loop.example/skyway/impl.errOther" = some #[.iface 94 (.pointer (some x1))] := by
  rw [MakeChecks.laidMetH_plain _ _ _ (by kernel_rfl)] at h
  obtain ⟨x0, _, v0, _⟩ := laid_sentinel h FnFarmText_g0 FnFarmText_t0 Tryd.underlying45 FnFarmText_rowP Tryd.underlying94 Tryd.underlying112 rfl rfl Tryd.underlying9 FnFarmText_c1 FnFarmText_c2
  obtain ⟨x1, _, v1, _⟩ := laid_sentinel (h).tail FnFarmText_g1 FnFarmText_t1 Tryd.underlying45 FnFarmText_rowP Tryd.underlying94 Tryd.underlying112 rfl rfl Tryd.underlying9 FnFarmText_c1 FnFarmText_c2
  exact ⟨x0, x1, v0, v1⟩
theorem FnFarmText_own : ownKnob Tryd.prog.godebug = none := by kernel_rfl
theorem FnFarmText_laidOut : laidOutB Tryd.prog = true := by kernel_rfl
set_option maxRecDepth 100000 in
theorem FnFarmText_lifted (os : Os) (started : os.Started) (H : Type) (enc : TypeId × Value → H) :
    ReturnsInHanded {} Tryd.checked os 5 .any (fun w args => (Rows.fnFarmTextSpec.pre enc Tryd.prog Tryd.f5 [] false w args ∧ laidMetH Tryd.prog FnFarmText_list w) ∧ sizedMet enc Tryd.prog Tryd.f5 (OpenSpec.ofChange Rows.fnFarmTextSpec) false w args) (Rows.fnFarmTextSpec.post enc Tryd.prog Tryd.f5 false true false false) := by
  refine returnsInHanded_of_change_and (C := Tryd.checked) (X := fun w _ => laidMetH Tryd.prog FnFarmText_list w) (fun _ _ _ hh h => h.of_heap hh) FnFarmText_own started (by kernel_rfl) Tryd.func5
    (ChangeSpec.witness_shaped (enc := enc) (C := Tryd.checked) (os := os) (X := fun w _ => laidMetH Tryd.prog FnFarmText_list w) false (World.doorLaid Tryd.prog 400 os) #[.slice none 0 0, .slice none 0 0] 8 rfl (World.shaped_of_RefB (by kernel_rfl) (by kernel_rfl)) (by kernel_rfl) (by kernel_rfl) (by kernel_rfl) (FnFarmText_met os _)) ?_
  intro W base args ds gs before hval0 hW hcnd _ hL _
  have hval : ∀ (j : Nat) t v, Tryd.f5.params[j]? = some t → args[j]? = some v → Value.okWide Tryd.prog W .any base t v := hval0
  have hW' := hW
  obtain ⟨p, q, hA0, hV0, rfl, hfz, hnd⟩ := hW
  have hV : DataW.TrodVars enc Tryd.prog W (fun _ => true) ["loop.example/skyway/impl.errShort", "loop.example/skyway/impl.errOther"] gs q := hV0
  obtain ⟨x0, x1, hv0, hv1⟩ := FnFarmText_of hL
  have hA : DataW.TrodAll enc Tryd.prog W 0 (fun _ => true) true Tryd.f5.params.toList args.toList ds p := hA0
  rw [Tryd.params5] at hA hval
  obtain ⟨v0, vs0, d0, ds0, p0, q0, hargs, rfl, rfl, h0, r0⟩ := trodAll_cons hA
  obtain ⟨v1, vs1, d1, ds1, p1, q1, rfl, rfl, rfl, h1, r1⟩ := trodAll_cons r0
  obtain ⟨rfl, rfl, rfl⟩ := trodAll_nil r1
  obtain rfl : args = #[v0, v1] := by cases args; simp_all
  obtain ⟨rfl, rfl⟩ := hV.unique (vars_read2 enc FnFarmText_g0 FnFarmText_t0 Tryd.underlying45 hv0 trivial FnFarmText_g1 FnFarmText_t1 Tryd.underlying45 hv1 trivial _)
  obtain ⟨a0, len0, cap0, rfl⟩ := okWide_slice Tryd.underlying33 (hval 0 33 v0 rfl rfl)
  have k0 := h0
  have lt0 : ∀ x ∈ p0, x.block < W.heap.size := by obtain ⟨m, hm⟩ := k0; exact DataW.trod_lt m _ _ _ hm
  obtain ⟨z0, w0⟩ : ∃ zs, IsRow .u8 W a0 len0 cap0 zs := by
    obtain ⟨fuel, hf⟩ := h0
    rcases open_ints Tryd.underlying33 Tryd.underlying5 (by kernel_rfl) hf with ⟨hcs, _⟩ | ⟨x, l, c, zs, hcs, _, hl, hm, hz, _, hcell, hwz⟩
    · simp [Value.cells] at hcs
      obtain ⟨rfl, rfl, rfl⟩ := hcs
      exact ⟨[], .inl ⟨rfl, rfl, rfl, rfl⟩⟩
    · simp [Value.cells] at hcs
      obtain ⟨rfl, rfl, rfl⟩ := hcs
      exact ⟨zs, .inr ⟨_, rfl, hl, hm, by simpa using hz, hcell, hwz⟩⟩
  obtain ⟨a1, len1, cap1, rfl⟩ := okWide_slice Tryd.underlying33 (hval 1 33 v1 rfl rfl)
  have k1 := h1
  have lt1 : ∀ x ∈ p1, x.block < W.heap.size := by obtain ⟨m, hm⟩ := k1; exact DataW.trod_lt m _ _ _ hm
  obtain ⟨z1, w1⟩ : ∃ zs, IsRow .u8 W a1 len1 cap1 zs := by
    obtain ⟨fuel, hf⟩ := h1
    rcases open_ints Tryd.underlying33 Tryd.underlying5 (by kernel_rfl) hf with ⟨hcs, _⟩ | ⟨x, l, c, zs, hcs, _, hl, hm, hz, _, hcell, hwz⟩
    · simp [Value.cells] at hcs
      obtain ⟨rfl, rfl, rfl⟩ := hcs
      exact ⟨[], .inl ⟨rfl, rfl, rfl, rfl⟩⟩
    · simp [Value.cells] at hcs
      obtain ⟨rfl, rfl, rfl⟩ := hcs
      exact ⟨zs, .inr ⟨_, rfl, hl, hm, by simpa using hz, hcell, hwz⟩⟩
  clear hA0 hval0 hV0
  refine (FnFarmText_walk a0 len0 cap0 z0 a1 len1 cap1 z1 W w0 w1 ⟨x1, x0, (by simpa using World.var?_cell FnFarmText_g1 hv1 0), (by simpa using World.var?_cell FnFarmText_g0 hv0 0)⟩).mono fun e W' ⟨he, bel⟩ => ?_
  subst he
  exact ⟨_, rfl, _, _, _, [], _, _, hW', trodAll_mk1 (shut_bool Tryd.underlying4 _), (trodAll_cons_mk (Below.trod FnFarmText_laidOut (by kernel_rfl) (of_decide_eq_true (by kernel_rfl)) k0 bel lt0) (trodAll_cons_mk (Below.trod FnFarmText_laidOut (by kernel_rfl) (of_decide_eq_true (by kernel_rfl)) k1 bel lt1) trodAll_mk0)), (vars_read2 enc FnFarmText_g0 FnFarmText_t0 Tryd.underlying45 (FnFarmText_var bel hv0) trivial FnFarmText_g1 FnFarmText_t1 Tryd.underlying45 (FnFarmText_var bel hv1) trivial _), bel.frame _, fun h => by cases h⟩
theorem FnFarmText_holds : Rows.FnFarmTextSaid :=
  OpenClaim.holds_of_wide 5 Tryd.f5 rfl rfl rfl rfl rfl rfl rfl ⟨rfl, rfl, rfl, rfl, rfl⟩ rfl rfl rfl rfl rfl (by kernel_rfl) Tryd.func5 (by kernel_rfl)
    (of_decide_eq_true (by kernel_rfl)) (by unfold Func.isWrapper; first | (rw [if_pos (by decide +kernel)]; kernel_rfl) | (rw [if_neg (by decide +kernel)]; exact ⟨rfl, rfl⟩))
    (fun os started H enc _ => FnFarmText_lifted os started H enc)
theorem FnFarmText_card : Rows.FnFarmTextCardSaid :=
  Claim7.holds_tied_plain_at .later [] [.sentinel, .sentinel] true (true, "ff472f51be62a7d9dcdcd6700b3da447531790d306e95748407a7170847a67f9") true
    FnFarmText_holds (fun _ h => by cases h) (by kernel_rfl) (fun _ h => by cases h) fnFarmText_row_tie rfl ⟨rfl, rfl⟩ (by kernel_rfl) rfl
    (fun f fn hf hfn => by
      obtain rfl : f = 5 := Option.some.inj ((show Tryd.prog.funcNamed "loop.example/skyway/laws.FnFarmText" = some 5 by kernel_rfl).symm.trans hf) |>.symm
      obtain rfl : fn = Tryd.f5 := (Option.some.inj (Tryd.func5.symm.trans hfn)).symm
      exact ⟨by kernel_rfl, fun j t ht => by
        rw [Tryd.params5] at ht
        have hm : t ∈ ([33, 33] : List TypeId) := by simpa using Array.mem_of_getElem? ht
        have hall : (([33, 33] : List TypeId).all fun u => !Tryd.prog.wantsStandIn u) = true := by kernel_rfl
        exact (show Tryd.prog.wantsStandIn t = false by simpa using List.all_eq_true.1 hall t hm)⟩)
    (by kernel_rfl)
#print axioms FnFarmText_card
end Go.Proofs.YtlifigpkjbnkhaaDoor
