/- The cursor over a text: bytes. -/
import Derived.Test.YtccpdadabndleaaDoorNumG
import Derived.Test.YtccpdadabndleaaDoorHeap
import Derived.Test.YtccpdadabndleaaDoorDrX
import Derived.Test.YtccpdadabndleaaDoorDraw
import Derived.Deep.RegionHeld2
namespace Go.Proofs.YtccpdadabndleaaDoor
open Go.ChangeShapes Go.WideShapes Go.ChangeAt Go.RowKit
set_option linter.unusedVariables false

set_option maxHeartbeats 1000000 in
theorem bytes_yes (g : Nat) (t : ByteArray) (a n : Int) (w : World) (ht : t.size ≤ maxLen) (hg : w.heap[g]? = some (.cells #[.string t, .int .i64 a, .nilIface] 109)) (ha : 0 ≤ a) (hn : 0 ≤ n) (h : n ≤ t.size - a) :
    Calls Tryd.prog 114 #[.pointer (some ⟨g, 0, none⟩), .int .i64 n] w fun e w' => e = .returned (.string (t.extract a.toNat (a + n).toNat)) ∧ Only g w w' ∧ w'.heap[g]? = some (.cells #[.string t, .int .i64 (a + n), .nilIface] 109) := by
  unfold maxLen at ht
  obtain ⟨k0, k1, k2⟩ := cells3_of hg
  have fz : ∀ j, w.frozen? ⟨g, j, none⟩ = false := fun j => frozen_get hg
  have HF : Hid (∀ m, Only g w ((w.drewN m).setCell ⟨g, 1, none⟩ (.int .i64 (a + n))) ∧ ((w.drewN m).setCell ⟨g, 1, none⟩ (.int .i64 (a + n))).heap[g]? = some (.cells #[.string t, .int .i64 (a + n), .nilIface] 109)) := fun m => 
    ⟨((Only.refl _ _).drewN m).setCell _ _, get_set (w := w.drewN m) hg rfl⟩
  clear hg
  have h1 : decide (n < 0) = false := by simp; omega
  have h2 : decide ((t.size : Int) - a < n) = false := by simp; omega
  have h3 : a + n - n = a := by omega
  go_enter Tryd.func114, Tryd.ntmps114
  go_wp2_with fail
  go_big_quiet (fail)
  go_wp2_with fail
  go_big_quiet (fail)
  go_wp2_with fail
  go_ret
  exact ⟨rfl, (HF.out _).1.drewN _, (HF.out _).2⟩
set_option maxHeartbeats 1000000 in
theorem fail_set (g : Nat) (t : ByteArray) (a : Int) (y : Addr) (w : World) (hg : w.heap[g]? = some (.cells #[.string t, .int .i64 a, .nilIface] 109)) :
    Calls Tryd.prog 115 #[.pointer (some ⟨g, 0, none⟩), .iface 158 (.pointer (some y))] w fun e w' => e = .returned (.tuple #[]) ∧ w' = w.setCell ⟨g, 2, none⟩ (.iface 158 (.pointer (some y))) := by
  obtain ⟨k0, k1, k2⟩ := cells3_of hg
  have fz : ∀ j, w.frozen? ⟨g, j, none⟩ = false := fun j => frozen_get hg
  clear hg
  go_enter Tryd.func115, Tryd.ntmps115
  go_wp2_with fail
  exact ⟨rfl, .tuple #[], results_none Tryd.results115 _ _ _, rfl, rfl⟩
set_option maxHeartbeats 1000000 in
theorem fail_keep (g : Nat) (t : ByteArray) (a : Int) (v : Value) (x : Addr) (w : World) (hg : w.heap[g]? = some (.cells #[.string t, .int .i64 a, .iface 158 (.pointer (some x))] 109)) :
    Calls Tryd.prog 115 #[.pointer (some ⟨g, 0, none⟩), v] w fun e w' => e = .returned (.tuple #[]) ∧ w' = w := by
  obtain ⟨k0, k1, k2⟩ := cells3_of hg
  clear hg
  go_enter Tryd.func115, Tryd.ntmps115
  go_wp2_with fail
  exact ⟨rfl, .tuple #[], results_none Tryd.results115 _ _ _, rfl, rfl⟩
/-- The two errors, as they lie. -/
def Errs (w : World) : Prop := ∃ x y : Addr, w.cell? ⟨0, 0, none⟩ = some (.iface 158 (.pointer (some x))) ∧ w.cell? ⟨2, 0, none⟩ = some (.iface 158 (.pointer (some y)))
def Cur (w : World) (g : Nat) (t : ByteArray) (a : Int) (ok : Bool) : Prop :=
  2 < g ∧ 0 ≤ a ∧ a ≤ t.size ∧ ∃ F, (ok = true → F = .nilIface) ∧ (ok = false → ∃ x, F = .iface 158 (.pointer (some x))) ∧ w.heap[g]? = some (.cells #[.string t, .int .i64 a, F] 109)
set_option maxHeartbeats 1000000 in
theorem bytes_neg (g : Nat) (t : ByteArray) (a n : Int) (w : World) (ht : t.size ≤ maxLen) (he : Errs w) (hg : w.heap[g]? = some (.cells #[.string t, .int .i64 a, .nilIface] 109)) (ha : 0 ≤ a) (ha2 : a ≤ t.size) (hn : n < 0) :
    Calls Tryd.prog 114 #[.pointer (some ⟨g, 0, none⟩), .int .i64 n] w fun e w' => e = .returned (.string ⟨#[]⟩) ∧ Only g w w' ∧ ∃ x, w'.heap[g]? = some (.cells #[.string t, .int .i64 a, .iface 158 (.pointer (some x))] 109) := by
  unfold maxLen at ht
  obtain ⟨y0, y, hy0, hy⟩ := he
  obtain ⟨k0, k1, k2⟩ := cells3_of hg
  have fz : ∀ j, w.frozen? ⟨g, j, none⟩ = false := fun j => frozen_get hg
  have HG : Hid _ := hg
  clear hg
  have h1 : decide (n < 0) = true := by simpa using hn
  go_enter Tryd.func114, Tryd.ntmps114
  go_wp2_with fail
  go_big_quiet (fail)
  go_wp2_with fail
  refine (fail_set g t a y (w.drewN _) HG.out).mono ?_
  rintro e w1 ⟨rfl, hw1⟩
  have HG1 : Hid (w1.heap[g]? = some (.cells #[.string t, .int .i64 a, .iface 158 (.pointer (some y))] 109)) := by rw [hw1]; exact get_set (w := w.drewN _) HG.out rfl
  have HO1 : Hid (Only g w w1) := by rw [hw1]; exact ((Only.refl _ _).drewN _).setCell _ _
  clear hw1 k0 k1 k2 fz hy0 hy
  obtain ⟨j0, j1, j2⟩ := cells3_of HG1.out
  go_wp2_with fail
  go_ret
  exact ⟨rfl, HO1.out, y, HG1.out⟩
set_option maxHeartbeats 1000000 in
theorem bytes_big (g : Nat) (t : ByteArray) (a n : Int) (w : World) (ht : t.size ≤ maxLen) (he : Errs w) (hg : w.heap[g]? = some (.cells #[.string t, .int .i64 a, .nilIface] 109)) (ha : 0 ≤ a) (ha2 : a ≤ t.size) (hn : 0 ≤ n) (h : t.size - a < n) :
    Calls Tryd.prog 114 #[.pointer (some ⟨g, 0, none⟩), .int .i64 n] w fun e w' => e = .returned (.string ⟨#[]⟩) ∧ Only g w w' ∧ ∃ x, w'.heap[g]? = some (.cells #[.string t, .int .i64 a, .iface 158 (.pointer (some x))] 109) := by
  unfold maxLen at ht
  obtain ⟨y0, y, hy0, hy⟩ := he
  obtain ⟨k0, k1, k2⟩ := cells3_of hg
  have fz : ∀ j, w.frozen? ⟨g, j, none⟩ = false := fun j => frozen_get hg
  have HG : Hid _ := hg
  clear hg
  have h1 : decide (n < 0) = false := by simp; omega
  have h2 : decide ((t.size : Int) - a < n) = true := by simp; omega
  go_enter Tryd.func114, Tryd.ntmps114
  go_wp2_with fail
  go_big_quiet (fail)
  go_wp2_with fail
  refine (fail_set g t a y (w.drewN _) HG.out).mono ?_
  rintro e w1 ⟨rfl, hw1⟩
  have HG1 : Hid (w1.heap[g]? = some (.cells #[.string t, .int .i64 a, .iface 158 (.pointer (some y))] 109)) := by rw [hw1]; exact get_set (w := w.drewN _) HG.out rfl
  have HO1 : Hid (Only g w w1) := by rw [hw1]; exact ((Only.refl _ _).drewN _).setCell _ _
  clear hw1 k0 k1 k2 fz hy0 hy
  obtain ⟨j0, j1, j2⟩ := cells3_of HG1.out
  go_wp2_with fail
  go_ret
  exact ⟨rfl, HO1.out, y, HG1.out⟩
set_option maxHeartbeats 1000000 in
theorem bytes_kneg (g : Nat) (t : ByteArray) (a n : Int) (x : Addr) (w : World) (ht : t.size ≤ maxLen) (he : Errs w) (hg : w.heap[g]? = some (.cells #[.string t, .int .i64 a, .iface 158 (.pointer (some x))] 109)) (ha : 0 ≤ a) (ha2 : a ≤ t.size) (hn : n < 0) :
    Calls Tryd.prog 114 #[.pointer (some ⟨g, 0, none⟩), .int .i64 n] w fun e w' => e = .returned (.string ⟨#[]⟩) ∧ Only g w w' ∧ w'.heap[g]? = some (.cells #[.string t, .int .i64 a, .iface 158 (.pointer (some x))] 109) := by
  unfold maxLen at ht
  obtain ⟨y0, y, hy0, hy⟩ := he
  obtain ⟨k0, k1, k2⟩ := cells3_of hg
  have HG : Hid _ := hg
  clear hg
  have h1 : decide (n < 0) = true := by simpa using hn
  go_enter Tryd.func114, Tryd.ntmps114
  go_wp2_with fail
  go_big_quiet (fail)
  go_wp2_with fail
  refine (fail_keep g t a _ x (w.drewN _) HG.out).mono ?_
  rintro e w1 ⟨rfl, rfl⟩
  go_wp2_with fail
  go_ret
  exact ⟨rfl, (Only.refl _ _).drewN _, HG.out⟩
set_option maxHeartbeats 1000000 in
theorem bytes_kbig (g : Nat) (t : ByteArray) (a n : Int) (x : Addr) (w : World) (ht : t.size ≤ maxLen) (he : Errs w) (hg : w.heap[g]? = some (.cells #[.string t, .int .i64 a, .iface 158 (.pointer (some x))] 109)) (ha : 0 ≤ a) (ha2 : a ≤ t.size) (hn : 0 ≤ n) (h : t.size - a < n) :
    Calls Tryd.prog 114 #[.pointer (some ⟨g, 0, none⟩), .int .i64 n] w fun e w' => e = .returned (.string ⟨#[]⟩) ∧ Only g w w' ∧ w'.heap[g]? = some (.cells #[.string t, .int .i64 a, .iface 158 (.pointer (some x))] 109) := by
  unfold maxLen at ht
  obtain ⟨y0, y, hy0, hy⟩ := he
  obtain ⟨k0, k1, k2⟩ := cells3_of hg
  have HG : Hid _ := hg
  clear hg
  have h1 : decide (n < 0) = false := by simp; omega
  have h2 : decide ((t.size : Int) - a < n) = true := by simp; omega
  go_enter Tryd.func114, Tryd.ntmps114
  go_wp2_with fail
  go_big_quiet (fail)
  go_wp2_with fail
  refine (fail_keep g t a _ x (w.drewN _) HG.out).mono ?_
  rintro e w1 ⟨rfl, rfl⟩
  go_wp2_with fail
  go_ret
  exact ⟨rfl, (Only.refl _ _).drewN _, HG.out⟩
set_option maxHeartbeats 1000000 in
theorem bytes_kin (g : Nat) (t : ByteArray) (a n : Int) (x : Addr) (w : World) (ht : t.size ≤ maxLen) (he : Errs w) (hg : w.heap[g]? = some (.cells #[.string t, .int .i64 a, .iface 158 (.pointer (some x))] 109)) (ha : 0 ≤ a) (ha2 : a ≤ t.size) (hn : 0 ≤ n) (h : n ≤ t.size - a) :
    Calls Tryd.prog 114 #[.pointer (some ⟨g, 0, none⟩), .int .i64 n] w fun e w' => e = .returned (.string ⟨#[]⟩) ∧ Only g w w' ∧ w'.heap[g]? = some (.cells #[.string t, .int .i64 a, .iface 158 (.pointer (some x))] 109) := by
  unfold maxLen at ht
  obtain ⟨y0, y, hy0, hy⟩ := he
  obtain ⟨k0, k1, k2⟩ := cells3_of hg
  have HG : Hid _ := hg
  clear hg
  have h1 : decide (n < 0) = false := by simp; omega
  have h2 : decide ((t.size : Int) - a < n) = false := by simp; omega
  go_enter Tryd.func114, Tryd.ntmps114
  go_wp2_with fail
  go_big_quiet (fail)
  go_wp2_with fail
  go_ret
  exact ⟨rfl, (Only.refl _ _).drewN _, HG.out⟩
theorem and_two (n i : Nat) : n &&& 2 ^ i = if n.testBit i = true then 2 ^ i else 0 := by
  apply Nat.eq_of_testBit_eq
  intro j
  rw [Nat.testBit_and, Nat.testBit_two_pow]
  by_cases h : i = j
  · subst h
    cases hb : n.testBit i <;> simp
  · cases hb : n.testBit i <;> simp [h]
theorem bit_at (n i : Nat) : (((n &&& 2 ^ i : Nat) : Int) != 0) = decide (n / 2 ^ i % 2 = 1) := by
  rw [and_two, Nat.testBit_eq_decide_div_mod_eq]
  have hp := Nat.two_pow_pos i
  by_cases h : n / 2 ^ i % 2 = 1
  · simp [h]
    have : ((2 ^ i : Nat) : Int) ≠ 0 := by omega
    simpa using this
  · simp [h]
theorem low_at (n i : Nat) : n &&& (2 ^ i - 1) = n % 2 ^ i := Nat.and_two_pow_sub_one_eq_mod n i
theorem getO2 {g b : Nat} {W0 W : World} {o : Obj} (h : Only g W0 W) (k : W0.heap[b]? = some o) (e : b ≠ g) : W.heap[b]? = some o := (h.block b (size_of_get k) e).trans k
/-- Whether so many bytes are there. -/
def canR (t : ByteArray) (a n : Int) (ok : Bool) : Bool := ok && decide (0 ≤ n) && decide (n ≤ t.size - a)
def cutR (t : ByteArray) (a n : Int) (ok : Bool) : ByteArray := if canR t a n ok = true then t.extract a.toNat (a + n).toNat else ⟨#[]⟩
def toR (t : ByteArray) (a n : Int) (ok : Bool) : Int := if canR t a n ok = true then a + n else a
theorem Cur.yes {w : World} {g : Nat} {t : ByteArray} {a : Int} (h2 : 2 < g) (h0 : 0 ≤ a) (h1 : a ≤ t.size) (h : w.heap[g]? = some (.cells #[.string t, .int .i64 a, .nilIface] 109)) : Cur w g t a true :=
  ⟨h2, h0, h1, _, fun _ => rfl, (fun h => by cases h), h⟩
theorem Cur.no {w : World} {g : Nat} {t : ByteArray} {a : Int} {x : Addr} (h2 : 2 < g) (h0 : 0 ≤ a) (h1 : a ≤ t.size) (h : w.heap[g]? = some (.cells #[.string t, .int .i64 a, .iface 158 (.pointer (some x))] 109)) : Cur w g t a false :=
  ⟨h2, h0, h1, _, (fun h => by cases h), fun _ => ⟨x, rfl⟩, h⟩
theorem bytes_any (g : Nat) (t : ByteArray) (a n : Int) (ok : Bool) (w : World) (ht : t.size ≤ maxLen) (he : Errs w) (hc : Cur w g t a ok) :
    Calls Tryd.prog 114 #[.pointer (some ⟨g, 0, none⟩), .int .i64 n] w fun e w' => e = .returned (.string (cutR t a n ok)) ∧ Only g w w' ∧ Cur w' g t (toR t a n ok) (canR t a n ok) := by
  obtain ⟨h2, h0, h1, F, hf1, hf2, hg⟩ := hc
  cases ok with
  | true =>
    obtain rfl := hf1 rfl
    by_cases hn : n < 0
    · have e1 : canR t a n true = false := by simp [canR]; omega
      simp only [cutR, toR, e1]
      exact (bytes_neg g t a n w ht he hg h0 h1 hn).mono fun e w' ⟨k1, k2, x, k3⟩ => ⟨k1, k2, Cur.no h2 h0 h1 k3⟩
    by_cases hm : t.size - a < n
    · have e1 : canR t a n true = false := by simp [canR]; omega
      simp only [cutR, toR, e1]
      exact (bytes_big g t a n w ht he hg h0 h1 (by omega) hm).mono fun e w' ⟨k1, k2, x, k3⟩ => ⟨k1, k2, Cur.no h2 h0 h1 k3⟩
    · have e1 : canR t a n true = true := by simp [canR]; omega
      simp only [cutR, toR, e1, if_true]
      exact (bytes_yes g t a n w ht hg h0 (by omega) (by omega)).mono fun e w' ⟨k1, k2, k3⟩ => ⟨k1, k2, Cur.yes h2 (by omega) (by omega) k3⟩
  | false =>
    obtain ⟨x, rfl⟩ := hf2 rfl
    have e1 : canR t a n false = false := by simp [canR]
    simp only [cutR, toR, e1]
    by_cases hn : n < 0
    · exact (bytes_kneg g t a n x w ht he hg h0 h1 hn).mono fun e w' ⟨k1, k2, k3⟩ => ⟨k1, k2, Cur.no h2 h0 h1 k3⟩
    by_cases hm : t.size - a < n
    · exact (bytes_kbig g t a n x w ht he hg h0 h1 (by omega) hm).mono fun e w' ⟨k1, k2, k3⟩ => ⟨k1, k2, Cur.no h2 h0 h1 k3⟩
    · exact (bytes_kin g t a n x w ht he hg h0 h1 (by omega) (by omega)).mono fun e w' ⟨k1, k2, k3⟩ => ⟨k1, k2, Cur.no h2 h0 h1 k3⟩
theorem byteAt_ext (t : ByteArray) (a b i : Nat) (h : i < b - a) : byteAt (t.extract a b) i = byteAt t (a + i) := by
  unfold byteAt
  rw [ByteArray.data_extract, Array.toList_extract, List.getD, List.getD, List.extract_eq_take_drop, List.getElem?_take_of_lt h, List.getElem?_drop]
theorem gt_ext (t : ByteArray) (a b : Nat) : ∀ k, k ≤ b - a → gt (t.extract a b) 0 k = gt t a k
  | 0, _ => rfl
  | k + 1, h => by
    simp only [gt, gt_ext t a b k (by omega), Nat.zero_add, byteAt_ext t a b k (by omega)]
theorem cutR_le (t : ByteArray) (a n : Int) (ok : Bool) : (cutR t a n ok).size ≤ t.size := by
  unfold cutR; split
  · rw [ByteArray.size_extract]; omega
  · exact Nat.zero_le _
def numR (t : ByteArray) (a : Int) (k : Nat) (ok : Bool) : Nat := if canR t a k ok = true then gt t a.toNat k else 0
set_option maxHeartbeats 1000000 in
theorem cnumber_any (g : Nat) (t : ByteArray) (a : Int) (k : Nat) (ok : Bool) (w : World) (ht : t.size ≤ maxLen) (he : Errs w) (hk1 : 1 ≤ k) (hk4 : k ≤ 4) (hc : Cur w g t a ok) :
    Calls Tryd.prog 113 #[.pointer (some ⟨g, 0, none⟩), .int .i64 k] w fun e w' => e = .returned (.int .i64 (numR t a k ok : Nat)) ∧ Only g w w' ∧ Cur w' g t (toR t a k ok) (canR t a k ok) := by
  have HC : Hid (Cur w g t a ok) := hc
  have HE : Hid (Errs w) := he
  have HT : Hid (t.size ≤ maxLen) := ht
  have ha := hc.2.1
  have ha2 := hc.2.2.1
  have HP : Hid (∀ W, Calls Tryd.prog 104 #[.string (cutR t a k ok), .int .i64 0, .int .i64 k] W fun e w' => ∃ b, e = .returned (.tuple #[.int .i64 (numR t a k ok : Nat), .bool b]) ∧ w' = W) := fun W => by
    have hs : (cutR t a k ok).size ≤ maxLen := Nat.le_trans (cutR_le _ _ _ _) ht
    cases h : canR t a k ok with
    | true =>
      have hz : (cutR t a k ok).size = k := by
        unfold cutR; rw [if_pos h, ByteArray.size_extract]
        simp only [canR, Bool.and_eq_true, decide_eq_true_eq] at h
        omega
      refine (implNumGet_yes _ 0 k W hs (by omega) (by omega) (by omega) (by omega)).mono fun e w' ⟨h1, h2⟩ => ⟨true, ?_, h2⟩
      rw [h1]
      have : gt (cutR t a k ok) 0 k = numR t a k ok := by
        unfold cutR numR; rw [if_pos h, if_pos h, gt_ext _ _ _ _ (by simp only [canR, Bool.and_eq_true, decide_eq_true_eq] at h; omega)]
      simp [this]
    | false =>
      have hz : (cutR t a k ok).size = 0 := by unfold cutR; rw [if_neg (by simp [h])]; rfl
      refine (implNumGet_no _ 0 k W hs (by omega)).mono fun e w' ⟨h1, h2⟩ => ⟨false, ?_, h2⟩
      rw [h1]; simp [numR, h]
  clear hc he ht
  go_enter Tryd.func113, Tryd.ntmps113
  go_wp2_with fail
  refine (bytes_any g t a k ok _ HT.out HE.out HC.out).mono ?_
  rintro e w1 ⟨rfl, ho, hc⟩
  have HO : Hid (Only g w w1) := ho
  have HC1 : Hid (Cur w1 g t (toR t a k ok) (canR t a k ok)) := hc
  clear ho hc HC HE
  go_wp2_with fail
  refine Calls.mono (HP.out _) ?_
  rintro e w2 ⟨b, rfl, rfl⟩
  go_wp2_with fail
  go_ret
  exact ⟨rfl, HO.out, HC1.out⟩
theorem Cur.only {w w' : World} {g g' : Nat} {t : ByteArray} {a : Int} {ok : Bool} (h : Cur w g t a ok) (k : Only g' w w') (e : g ≠ g') : Cur w' g t a ok := by
  obtain ⟨h2, h0, h1, F, hf1, hf2, hg⟩ := h
  exact ⟨h2, h0, h1, F, hf1, hf2, (k.block g (size_of_get hg) e).trans hg⟩
theorem Cur.below {w w' : World} {g : Nat} {t : ByteArray} {a : Int} {ok : Bool} (h : Cur w g t a ok) (k : Below w.heap.size w w') : Cur w' g t a ok := by
  obtain ⟨h2, h0, h1, F, hf1, hf2, hg⟩ := h
  exact ⟨h2, h0, h1, F, hf1, hf2, get_below k hg (size_of_get hg)⟩
theorem Cur.lt {w : World} {g : Nat} {t : ByteArray} {a : Int} {ok : Bool} (h : Cur w g t a ok) : 2 < g ∧ g < w.heap.size := by
  obtain ⟨h2, h0, h1, F, hf1, hf2, hg⟩ := h
  exact ⟨h2, size_of_get hg⟩
theorem Errs.lt {w : World} (h : Errs w) : 2 < w.heap.size := by
  obtain ⟨x, y, h0, h1⟩ := h
  exact block_lt_of_cell h1
theorem Errs.only {w w' : World} {g : Nat} (h : Errs w) (k : Only g w w') (e : 2 < g) : Errs w' := by
  have hl := h.lt
  obtain ⟨x, y, h0, h1⟩ := h
  exact ⟨x, y, (k.cell (p := ⟨0, 0, none⟩) (by simp; omega) (by simp; omega)).trans h0, (k.cell (p := ⟨2, 0, none⟩) (by simp; omega) (by simp; omega)).trans h1⟩
theorem Errs.below {w w' : World} (h : Errs w) (k : Below w.heap.size w w') : Errs w' := by
  have hl := h.lt
  obtain ⟨x, y, h0, h1⟩ := h
  exact ⟨x, y, (k.cell (p := ⟨0, 0, none⟩) (by simp; omega)).trans h0, (k.cell (p := ⟨2, 0, none⟩) (by simp; omega)).trans h1⟩
set_option maxHeartbeats 1000000 in
theorem must_any (g : Nat) (t : ByteArray) (a : Int) (ok b : Bool) (w : World) (he : Errs w) (hc : Cur w g t a ok) :
    Calls Tryd.prog 91 #[.pointer (some ⟨g, 0, none⟩), .bool b] w fun e w' => e = .returned (.tuple #[]) ∧ Only g w w' ∧ Cur w' g t a (ok && b) := by
  cases b with
  | true =>
    have HC : Hid (Cur w g t a ok) := hc
    clear hc he
    go_enter Tryd.func91, Tryd.ntmps91
    go_wp2_with fail
    exact ⟨rfl, .tuple #[], results_none Tryd.results91 _ _ _, rfl, Only.refl _ _, by simpa using HC.out⟩
  | false =>
    obtain ⟨h2, h0, h1, F, hf1, hf2, hg⟩ := hc
    obtain ⟨y, y1, hy, hy1⟩ := he
    have HP : Hid (Calls Tryd.prog 115 #[.pointer (some ⟨g, 0, none⟩), .iface 158 (.pointer (some y))] w fun e w' => e = .returned (.tuple #[]) ∧ Only g w w' ∧ Cur w' g t a false) := by
      cases ok with
      | true =>
        obtain rfl := hf1 rfl
        refine (fail_set g t a y w hg).mono fun e w' ⟨k1, k2⟩ => ⟨k1, ?_, Cur.no (x := y) h2 h0 h1 ?_⟩
        · rw [k2]; exact (Only.refl _ _).setCell _ _
        · rw [k2]; exact get_set hg rfl
      | false =>
        obtain ⟨x, rfl⟩ := hf2 rfl
        refine (fail_keep g t a _ x w hg).mono fun e w' ⟨k1, k2⟩ => ⟨k1, ?_, ?_⟩
        · rw [k2]; exact Only.refl _ _
        · rw [k2]; exact Cur.no h2 h0 h1 hg
    clear hg hf1 hf2
    go_enter Tryd.func91, Tryd.ntmps91
    go_wp2_with fail
    refine Calls.mono HP.out ?_
    rintro e w1 ⟨rfl, ho, hc⟩
    have HO : Hid (Only g w w1) := ho
    have HC : Hid (Cur w1 g t a false) := hc
    clear ho hc HP
    go_wp2_with fail
    exact ⟨rfl, .tuple #[], results_none Tryd.results91 _ _ _, rfl, HO.out, by simpa using HC.out⟩
end Go.Proofs.YtccpdadabndleaaDoor
