/- impl.FarmGet and spec.FarmGet. -/
import Derived.Test.YtccpdadabndleaaDoorCurD
import Derived.Test.YtccpdadabndleaaDoorFaP
namespace Go.Proofs.YtccpdadabndleaaDoor
open Go.ChangeShapes Go.WideShapes Go.ChangeAt Go.RowKit
set_option linter.unusedVariables false

/-- How it stands that a text tells, and whether it tells one. -/
def fatOk (t : ByteArray) : Bool := decide (t.size = 4) && decide (faPut (decide (byteAt t 2 / 32 % 2 = 1)) (decide (byteAt t 2 / 16 % 2 = 1)) (decide (byteAt t 2 / 8 % 2 = 1)) ((byteAt t 2 : Int) / 2 % 4) (byteAt t 3 : Int) = t)
def fatV (t : ByteArray) : Value := if fatOk t = true then .agg #[.bool (decide (byteAt t 2 / 32 % 2 = 1)), .bool (decide (byteAt t 2 / 16 % 2 = 1)), .bool (decide (byteAt t 2 / 8 % 2 = 1)), .int .i64 ((byteAt t 2 : Int) / 2 % 4), .int .i64 (byteAt t 3 : Int)] else .agg #[.bool false, .bool false, .bool false, .int .i64 0, .int .i64 0]
/-- What stands behind the reads. -/
def fam (t : ByteArray) (fl nx : Nat) (a : Int) (ok : Bool) : Prop :=
  ∃ a1 a2 : Int, ∃ o1 o2 : Bool, a1 = toR t 0 2 true ∧ o1 = (canR t 0 2 true && ((cutR t 0 2 true).toList == [1, 0])) ∧ fl = numR t a1 1 o1 ∧ a2 = toR t a1 1 o1 ∧ o2 = canR t a1 1 o1 ∧ nx = numR t a2 1 o2 ∧ a = toR t a2 1 o2 ∧ ok = canR t a2 1 o2
theorem ext02_list (t : ByteArray) (h : 2 ≤ t.size) : ((t.extract 0 2).toList == [1, 0]) = (decide (byteAt t 0 = 1) && decide (byteAt t 1 = 0)) := by
  rw [ByteArray.toList_eq]
  obtain ⟨⟨l⟩⟩ := t
  match l, h with
  | x :: y :: r, _ =>
    have e : (({ data := { toList := x :: y :: r } } : ByteArray).extract 0 2).data.toList = [x, y] := by simp [ByteArray.data_extract]
    rw [e]
    have e0 : byteAt { data := { toList := x :: y :: r } } 0 = x.toNat := rfl
    have e1 : byteAt { data := { toList := x :: y :: r } } 1 = y.toNat := rfl
    rw [e0, e1]
    have i1 : (x == 1) = decide (x.toNat = 1) := by
      by_cases h : x = 1
      · subst h; rfl
      · have : x.toNat ≠ 1 := fun e => h (UInt8.toNat_inj.1 e)
        simp [h, this]
    have i2 : (y == 0) = decide (y.toNat = 0) := by
      by_cases h : y = 0
      · subst h; rfl
      · have : y.toNat ≠ 0 := fun e => h (UInt8.toNat_inj.1 e)
        simp [h, this]
    show (x == 1 && (y == 0 && true)) = _
    rw [i1, i2, Bool.and_true]
theorem fpT_size (f n : Int) : (fpT f n).size = 4 := rfl
theorem fam_end {t : ByteArray} {fl nx : Nat} {a : Int} {ok q : Bool} (h : fam t fl nx a ok) (hq : q = (ok && ((faPut (decide (fl / 32 % 2 = 1)) (decide (fl / 16 % 2 = 1)) (decide (fl / 8 % 2 = 1)) ((fl : Int) / 2 % 4) (nx : Int)).toList == t.toList))) :
    fatOk t = q ∧ fatV t = if q = true then .agg #[.bool (decide (fl / 32 % 2 = 1)), .bool (decide (fl / 16 % 2 = 1)), .bool (decide (fl / 8 % 2 = 1)), .int .i64 ((fl : Int) / 2 % 4), .int .i64 (nx : Int)] else .agg #[.bool false, .bool false, .bool false, .int .i64 0, .int .i64 0] := by
  have hbe : ∀ x : ByteArray, (x.toList == t.toList) = decide (x = t) := fun x => by
    by_cases h : x = t
    · subst h; simp
    · have : x.toList ≠ t.toList := fun e => h (by rw [ByteArray.toList_eq, ByteArray.toList_eq] at e; exact bytes_inj e)
      simp [h, this]
  rw [hbe] at hq
  obtain ⟨a1, a2, o1, o2, ea1, eo1, ef, ea2, eo2, en, ea, eo⟩ := h
  have two : ∀ x n b, true = canR t x n b → b = true ∧ 0 ≤ n ∧ n ≤ t.size - x := fun x n b h => by
    simpa [canR, and_assoc] using h.symm
  cases ok with
  | true =>
    obtain ⟨rfl, m3⟩ := two _ _ _ eo
    obtain ⟨rfl, m2⟩ := two _ _ _ eo2
    have hc : canR t 0 2 true = true := by
      cases hx : canR t 0 2 true with
      | true => rfl
      | false => rw [hx] at eo1; cases eo1
    have t1 : a1 = 2 := by rw [ea1]; unfold toR; rw [if_pos hc]; rfl
    subst t1
    have t2 : a2 = 3 := by rw [ea2]; unfold toR; rw [if_pos eo2.symm]; rfl
    subst t2
    have f1 : fl = byteAt t 2 := by rw [ef]; unfold numR; exact (if_pos eo2.symm).trans (by simp [gt])
    have f2 : nx = byteAt t 3 := by rw [en]; unfold numR; exact (if_pos eo.symm).trans (by simp [gt])
    subst f1 f2
    have e : fatOk t = q := by
      rw [hq, Bool.true_and]
      unfold fatOk
      by_cases hz : t.size = 4
      · rw [decide_eq_true hz, Bool.true_and]
      · rw [decide_eq_false hz, Bool.false_and]
        symm
        simp only [decide_eq_false_iff_not]
        intro e
        apply hz
        rw [← e]
        unfold faPut
        split
        · rfl
        · exfalso
          rename_i hn
          unfold faPut at e
          rw [if_neg hn] at e
          have := congrArg ByteArray.size e
          have h0 : (⟨#[]⟩ : ByteArray).size = 0 := rfl
          omega
    refine ⟨e, ?_⟩
    unfold fatV; rw [e]
  | false =>
    simp only [Bool.false_and] at hq
    subst hq
    have e : fatOk t = false := by
      cases hf : fatOk t with
      | false => rfl
      | true =>
        exfalso
        simp only [fatOk, Bool.and_eq_true, decide_eq_true_eq] at hf
        obtain ⟨h4, hp⟩ := hf
        have hc : canR t 0 2 true = true := by simp [canR]; omega
        have hl : ((cutR t 0 2 true).toList == [1, 0]) = true := by
          have e2 : cutR t 0 2 true = t.extract 0 2 := by unfold cutR; rw [if_pos hc]; rfl
          rw [e2, ext02_list t (by omega)]
          have hne : t ≠ ⟨#[]⟩ := fun e => by rw [e] at h4; exact absurd h4 (by decide)
          unfold faPut at hp
          split at hp
          · have b0 : byteAt t 0 = 1 := by rw [← hp]; rfl
            have b1 : byteAt t 1 = 0 := by rw [← hp]; rfl
            rw [b0, b1]; rfl
          · exact absurd hp.symm hne
        rw [hc, hl] at eo1
        have o1t : o1 = true := eo1
        subst o1t
        have t1 : a1 = 2 := by rw [ea1]; unfold toR; rw [if_pos hc]; rfl
        subst t1
        have hc2 : canR t 2 1 true = true := by simp [canR]; omega
        rw [hc2] at eo2
        subst eo2
        have t2 : a2 = 3 := by rw [ea2]; unfold toR; rw [if_pos hc2]; rfl
        subst t2
        have hc3 : canR t 3 1 true = true := by simp [canR]; omega
        rw [hc3] at eo
        cases eo
    exact ⟨e, by simp [fatV, e]⟩
theorem fnum1 (g : Nat) (t : ByteArray) (a : Int) (ok : Bool) (w : World) (ht : t.size ≤ maxLen) (he : Errs w) (hc : Cur w g t a ok) :
    Calls Tryd.prog 113 #[.pointer (some ⟨g, 0, none⟩), .int .i64 1] w fun e w' => e = .returned (.int .i64 (numR t a 1 ok : Nat)) ∧ Only g w w' ∧ Cur w' g t (toR t a 1 ok) (canR t a 1 ok) :=
  cnumber_any g t a 1 ok w ht he (by decide) (by decide) hc
set_option maxHeartbeats 1000000 in
theorem implFarmGet_any (t : ByteArray) (w : World) (ht : t.size ≤ maxLen) (he : Errs w) :
    Calls Tryd.prog 112 #[.string t] w fun e w' => e = .returned (.tuple #[fatV t, .bool (fatOk t)]) ∧ Below w.heap.size w w' := by
  have hl := he.lt
  have HM : Hid (t.size ≤ maxLen) := ht
  have HG : Hid (((w.alloc (.cells #[.bool false, .bool false, .bool false, .int .i64 0, .int .i64 0] 144)).alloc (.cells #[.string t, .int .i64 0, .nilIface] 109)).heap[w.heap.size]? = some (.cells #[.bool false, .bool false, .bool false, .int .i64 0, .int .i64 0] 144)) := get_alloc (get_new rfl) (by simp)
  have HCB : Hid (((w.alloc (.cells #[.bool false, .bool false, .bool false, .int .i64 0, .int .i64 0] 144)).alloc (.cells #[.string t, .int .i64 0, .nilIface] 109)).heap[w.heap.size + 1]? = some (.cells #[.string t, .int .i64 0, .nilIface] 109)) := get_new (by simp)
  have HE : Hid (Errs ((w.alloc (.cells #[.bool false, .bool false, .bool false, .int .i64 0, .int .i64 0] 144)).alloc (.cells #[.string t, .int .i64 0, .nilIface] 109))) := he.below (((Below.refl _ _).alloc (Nat.le_refl _) _).alloc (by simp) _)
  have HC0 : Hid (Cur ((w.alloc (.cells #[.bool false, .bool false, .bool false, .int .i64 0, .int .i64 0] 144)).alloc (.cells #[.string t, .int .i64 0, .nilIface] 109)) (w.heap.size + 1) t 0 true) := Cur.yes (by omega) (by omega) (by omega) HCB.out
  have HO : Hid (Only (w.heap.size + 1) ((w.alloc (.cells #[.bool false, .bool false, .bool false, .int .i64 0, .int .i64 0] 144)).alloc (.cells #[.string t, .int .i64 0, .nilIface] 109)) ((w.alloc (.cells #[.bool false, .bool false, .bool false, .int .i64 0, .int .i64 0] 144)).alloc (.cells #[.string t, .int .i64 0, .nilIface] 109))) := Only.refl _ _
  have hz : ((w.alloc (.cells #[.bool false, .bool false, .bool false, .int .i64 0, .int .i64 0] 144)).alloc (.cells #[.string t, .int .i64 0, .nilIface] 109)).heap.size = w.heap.size + 2 := by simp
  have HZ : Hid _ := hz
  have HB0 : Hid (Below w.heap.size w ((w.alloc (.cells #[.bool false, .bool false, .bool false, .int .i64 0, .int .i64 0] 144)).alloc (.cells #[.string t, .int .i64 0, .nilIface] 109))) := ((Below.refl _ _).alloc (Nat.le_refl _) _).alloc (by simp) _
  clear he ht hz HCB
  go_enter Tryd.func112, Tryd.ntmps112
  go_wp2_with fail
  refine (bytes_any (w.heap.size + 1) t 0 2 true _ HM.out HE.out HC0.out).mono ?_
  rintro e w1 ⟨rfl, ho, hc⟩
  have HG : Hid (w1.heap[w.heap.size]? = some (.cells #[.bool false, .bool false, .bool false, .int .i64 0, .int .i64 0] 144)) := getO2 ho HG.out (by omega)
  have HE : Hid (Errs w1) := HE.out.only ho (by omega)
  have HO : Hid (Only (w.heap.size + 1) ((w.alloc (.cells #[.bool false, .bool false, .bool false, .int .i64 0, .int .i64 0] 144)).alloc (.cells #[.string t, .int .i64 0, .nilIface] 109)) w1) := HO.out.trans ho
  have HC1 : Hid (Cur w1 (w.heap.size + 1) t _ _) := hc
  clear ho hc
  generalize es : cutR t 0 2 true = s0 at *
  generalize e1 : toR t 0 2 true = a1 at *
  generalize o1 : canR t 0 2 true = b1 at *
  go_wp2_with fail
  refine (must_any (w.heap.size + 1) t a1 b1 _ _ HE.out HC1.out).mono ?_
  rintro e w2 ⟨rfl, ho, hc⟩
  have HG : Hid (w2.heap[w.heap.size]? = some (.cells #[.bool false, .bool false, .bool false, .int .i64 0, .int .i64 0] 144)) := getO2 ho HG.out (by omega)
  have HE : Hid (Errs w2) := HE.out.only ho (by omega)
  have HO : Hid (Only (w.heap.size + 1) ((w.alloc (.cells #[.bool false, .bool false, .bool false, .int .i64 0, .int .i64 0] 144)).alloc (.cells #[.string t, .int .i64 0, .nilIface] 109)) w2) := HO.out.trans ho
  have HC2 : Hid (Cur w2 (w.heap.size + 1) t _ _) := hc
  clear ho hc
  generalize em : (s0.toList == [1, 0]) = m1 at *
  go_wp2_with fail
  refine (fnum1 (w.heap.size + 1) t a1 (b1 && m1) _ HM.out HE.out HC2.out).mono ?_
  rintro e w3 ⟨rfl, ho, hc⟩
  have HG : Hid (w3.heap[w.heap.size]? = some (.cells #[.bool false, .bool false, .bool false, .int .i64 0, .int .i64 0] 144)) := getO2 ho HG.out (by omega)
  have HE : Hid (Errs w3) := HE.out.only ho (by omega)
  have HO : Hid (Only (w.heap.size + 1) ((w.alloc (.cells #[.bool false, .bool false, .bool false, .int .i64 0, .int .i64 0] 144)).alloc (.cells #[.string t, .int .i64 0, .nilIface] 109)) w3) := HO.out.trans ho
  have HC3 : Hid (Cur w3 (w.heap.size + 1) t _ _) := hc
  clear ho hc
  have hfl : numR t a1 1 (b1 && m1) < 256 := by unfold numR; split; exact gt_lt _ _ 1; decide
  generalize ef : numR t a1 1 (b1 && m1) = fl at *
  generalize e2 : toR t a1 1 (b1 && m1) = a2 at *
  generalize o2 : canR t a1 1 (b1 && m1) = b2 at *
  go_wp2_with fail
  refine (fnum1 (w.heap.size + 1) t a2 b2 _ HM.out HE.out HC3.out).mono ?_
  rintro e w4 ⟨rfl, ho, hc⟩
  have HG : Hid (w4.heap[w.heap.size]? = some (.cells #[.bool false, .bool false, .bool false, .int .i64 0, .int .i64 0] 144)) := getO2 ho HG.out (by omega)
  have HE : Hid (Errs w4) := HE.out.only ho (by omega)
  have HO : Hid (Only (w.heap.size + 1) ((w.alloc (.cells #[.bool false, .bool false, .bool false, .int .i64 0, .int .i64 0] 144)).alloc (.cells #[.string t, .int .i64 0, .nilIface] 109)) w4) := HO.out.trans ho
  have HC4 : Hid (Cur w4 (w.heap.size + 1) t _ _) := hc
  clear ho hc
  have HF : Hid (fam t fl (numR t a2 1 b2) (toR t a2 1 b2) (canR t a2 1 b2)) := ⟨a1, a2, b1 && m1, b2, e1.symm, by rw [o1, es, em], ef.symm, e2.symm, o2.symm, rfl, rfl, rfl⟩
  generalize en : numR t a2 1 b2 = nx at *
  generalize e3 : toR t a2 1 b2 = a at *
  generalize o3 : canR t a2 1 b2 = ok at *
  clear es e1 o1 em ef e2 o2 en e3 o3 HC1 HC2 HC3 HC0
  have f1 : bits .and .i64 (fl : Int) 32 = ((fl &&& 32 : Nat) : Int) := i64_and fl 32 (by omega) (by omega)
  have f2 : bits .and .i64 (fl : Int) 16 = ((fl &&& 16 : Nat) : Int) := i64_and fl 16 (by omega) (by omega)
  have f3 : bits .and .i64 (fl : Int) 8 = ((fl &&& 8 : Nat) : Int) := i64_and fl 8 (by omega) (by omega)
  have q1 : (((fl &&& 32 : Nat) : Int) != 0) = decide (fl / 32 % 2 = 1) := bit_at fl 5
  have q2 : (((fl &&& 16 : Nat) : Int) != 0) = decide (fl / 16 % 2 = 1) := bit_at fl 4
  have q3 : (((fl &&& 8 : Nat) : Int) != 0) = decide (fl / 8 % 2 = 1) := bit_at fl 3
  have hz4 := HC4.out.lt
  have HG5 : Hid ((w4.alloc (.cells #[.bool (decide (fl / 32 % 2 = 1)), .bool (decide (fl / 16 % 2 = 1)), .bool (decide (fl / 8 % 2 = 1)), .int .i64 ((fl : Int) / 2 % 4), .int .i64 (nx : Int)] 144)).heap[w.heap.size]? = some (.cells #[.bool false, .bool false, .bool false, .int .i64 0, .int .i64 0] 144)) := get_alloc HG.out (by omega)
  have HX5 : Hid ((w4.alloc (.cells #[.bool (decide (fl / 32 % 2 = 1)), .bool (decide (fl / 16 % 2 = 1)), .bool (decide (fl / 8 % 2 = 1)), .int .i64 ((fl : Int) / 2 % 4), .int .i64 (nx : Int)] 144)).heap[w4.heap.size]? = some (.cells #[.bool (decide (fl / 32 % 2 = 1)), .bool (decide (fl / 16 % 2 = 1)), .bool (decide (fl / 8 % 2 = 1)), .int .i64 ((fl : Int) / 2 % 4), .int .i64 (nx : Int)] 144)) := get_new rfl
  have HE5 : Hid (Errs (w4.alloc (.cells #[.bool (decide (fl / 32 % 2 = 1)), .bool (decide (fl / 16 % 2 = 1)), .bool (decide (fl / 8 % 2 = 1)), .int .i64 ((fl : Int) / 2 % 4), .int .i64 (nx : Int)] 144))) := HE.out.below ((Below.refl _ _).alloc (Nat.le_refl _) _)
  have HC5 : Hid (Cur (w4.alloc (.cells #[.bool (decide (fl / 32 % 2 = 1)), .bool (decide (fl / 16 % 2 = 1)), .bool (decide (fl / 8 % 2 = 1)), .int .i64 ((fl : Int) / 2 % 4), .int .i64 (nx : Int)] 144)) (w.heap.size + 1) t a ok) := HC4.out.below ((Below.refl _ _).alloc (Nat.le_refl _) _)
  have HO5 : Hid (Only (w.heap.size + 1) ((w.alloc (.cells #[.bool false, .bool false, .bool false, .int .i64 0, .int .i64 0] 144)).alloc (.cells #[.string t, .int .i64 0, .nilIface] 109)) (w4.alloc (.cells #[.bool (decide (fl / 32 % 2 = 1)), .bool (decide (fl / 16 % 2 = 1)), .bool (decide (fl / 8 % 2 = 1)), .int .i64 ((fl : Int) / 2 % 4), .int .i64 (nx : Int)] 144))) := HO.out.alloc _
  obtain ⟨k0, k1, k2, k3, k4⟩ := cells5_of HX5.out
  clear HG HE HO HC4
  go_wp2_with fail
  refine (implFarmPut_any _ _ _ _ _ _).mono ?_
  rintro e w5 ⟨rfl, hb⟩
  have HG6 : Hid (w5.heap[w.heap.size]? = some (.cells #[.bool false, .bool false, .bool false, .int .i64 0, .int .i64 0] 144)) := get_below hb HG5.out (by simp; omega)
  have HX6 : Hid (w5.heap[w4.heap.size]? = some (.cells #[.bool (decide (fl / 32 % 2 = 1)), .bool (decide (fl / 16 % 2 = 1)), .bool (decide (fl / 8 % 2 = 1)), .int .i64 ((fl : Int) / 2 % 4), .int .i64 (nx : Int)] 144)) := get_below hb HX5.out (by simp)
  have HE6 : Hid (Errs w5) := HE5.out.below hb
  have HC6 : Hid (Cur w5 (w.heap.size + 1) t a ok) := HC5.out.below hb
  have HO6 : Hid (Only (w.heap.size + 1) ((w.alloc (.cells #[.bool false, .bool false, .bool false, .int .i64 0, .int .i64 0] 144)).alloc (.cells #[.string t, .int .i64 0, .nilIface] 109)) w5) := HO5.out.trans (Only.of_below hb)
  clear hb HG5 HX5 HE5 HC5 HO5 k0 k1 k2 k3 k4
  go_wp2_with fail
  refine (must_any (w.heap.size + 1) t a ok _ _ HE6.out HC6.out).mono ?_
  rintro e w6 ⟨rfl, ho, hc⟩
  have HG7 : Hid (w6.heap[w.heap.size]? = some (.cells #[.bool false, .bool false, .bool false, .int .i64 0, .int .i64 0] 144)) := getO2 ho HG6.out (by omega)
  have HX7 : Hid (w6.heap[w4.heap.size]? = some (.cells #[.bool (decide (fl / 32 % 2 = 1)), .bool (decide (fl / 16 % 2 = 1)), .bool (decide (fl / 8 % 2 = 1)), .int .i64 ((fl : Int) / 2 % 4), .int .i64 (nx : Int)] 144)) := getO2 ho HX6.out (by omega)
  have HO7 : Hid (Only (w.heap.size + 1) ((w.alloc (.cells #[.bool false, .bool false, .bool false, .int .i64 0, .int .i64 0] 144)).alloc (.cells #[.string t, .int .i64 0, .nilIface] 109)) w6) := HO6.out.trans ho
  obtain ⟨q, hq, hc⟩ : ∃ q, q = (ok && _) ∧ Cur w6 (w.heap.size + 1) t a q := ⟨_, rfl, hc⟩
  obtain ⟨e1, e2⟩ := fam_end HF.out hq
  have E1 : Hid _ := e1
  have E2 : Hid _ := e2
  clear hq e1 e2 ho HG6 HX6 HE6 HC6 HO6
  have HB7 : Hid (Below w.heap.size w w6) := HB0.out.trans (HO7.out.below (by omega) (by simp; omega))
  clear HO7
  obtain ⟨h2, h0, h1, F, hf1, hf2, hg⟩ := hc
  obtain ⟨l0, l1, l2⟩ := cells3_of hg
  obtain ⟨r0, r1, r2, r3, r4⟩ := cells5_of HG7.out
  obtain ⟨k0, k1, k2, k3, k4⟩ := cells5_of HX7.out
  have fz : ∀ j, w6.frozen? ⟨w.heap.size, j, none⟩ = false := fun j => frozen_get HG7.out
  clear hg
  cases q with
  | false =>
    obtain ⟨x, rfl⟩ := hf2 rfl
    go_wp2_with fail
    refine bodyPost_ret (v := .tuple #[.agg #[.bool false, .bool false, .bool false, .int .i64 0, .int .i64 0], .bool false]) (results_row_tmp Tryd.results112 _ _ (w.heap.size) 144 #[.bool false, .bool false, .bool false, .int .i64 0, .int .i64 0] (0, 0) _ rfl ?_ Tryd.underlying144 rfl cellsFarm _ rfl) rfl ⟨by rw [E1.out, E2.out]; rfl, ?_⟩
    · exact get_set (get_set (get_set (get_set (get_set (HG7.out) rfl) rfl) rfl) rfl) rfl
    · exact belowS (belowS (belowS (belowS (belowS (HB7.out) (by omega)) (by omega)) (by omega)) (by omega)) (by omega)
  | true =>
    obtain rfl := hf1 rfl
    go_wp2_with fail
    refine bodyPost_ret (v := .tuple #[.agg #[.bool (decide (fl / 32 % 2 = 1)), .bool (decide (fl / 16 % 2 = 1)), .bool (decide (fl / 8 % 2 = 1)), .int .i64 ((fl : Int) / 2 % 4), .int .i64 (nx : Int)], .bool true]) (results_row_tmp Tryd.results112 _ _ (w.heap.size) 144 #[.bool (decide (fl / 32 % 2 = 1)), .bool (decide (fl / 16 % 2 = 1)), .bool (decide (fl / 8 % 2 = 1)), .int .i64 ((fl : Int) / 2 % 4), .int .i64 (nx : Int)] (0, 0) _ rfl ?_ Tryd.underlying144 rfl cellsFarm _ rfl) rfl ⟨by rw [E1.out, E2.out]; rfl, ?_⟩
    · exact get_set (get_set (get_set (get_set (get_set (HG7.out) rfl) rfl) rfl) rfl) rfl
    · exact belowS (belowS (belowS (belowS (belowS (HB7.out) (by omega)) (by omega)) (by omega)) (by omega)) (by omega)
set_option maxHeartbeats 1000000 in
theorem specFarmGet_out (t : ByteArray) (w : World) (ht : t.size ≤ maxLen) (h : ¬ t.size = 4) :
    Calls Tryd.prog 111 #[.string t] w fun e w' => e = .returned (.tuple #[fatV t, .bool (fatOk t)]) ∧ Below w.heap.size w w' := by
  have e1 : fatOk t = false := by simp [fatOk, h]
  have e2 : fatV t = .agg #[.bool false, .bool false, .bool false, .int .i64 0, .int .i64 0] := by simp [fatV, e1]
  have HG : Hid ((w.alloc (.cells #[.bool false, .bool false, .bool false, .int .i64 0, .int .i64 0] 144)).heap[w.heap.size]? = some (.cells #[.bool false, .bool false, .bool false, .int .i64 0, .int .i64 0] 144)) := get_new rfl
  have HB : Hid (Below w.heap.size w (w.alloc (.cells #[.bool false, .bool false, .bool false, .int .i64 0, .int .i64 0] 144))) := (Below.refl _ _).alloc (Nat.le_refl _) _
  unfold maxLen at ht
  rw [e1, e2]
  clear e1 e2
  have hne : ((t.size : Int) == 4) = false := by simp; omega
  go_enter Tryd.func111, Tryd.ntmps111
  go_wp2_with fail
  refine bodyPost_ret (v := .tuple #[.agg #[.bool false, .bool false, .bool false, .int .i64 0, .int .i64 0], .bool false]) (results_row_tmp Tryd.results111 _ _ (w.heap.size) 144 #[.bool false, .bool false, .bool false, .int .i64 0, .int .i64 0] (0, 0) _ rfl ?_ Tryd.underlying144 rfl cellsFarm _ rfl) rfl ⟨rfl, ?_⟩
  · exact HG.out
  · exact HB.out
theorem beq_nat2 (n m : Nat) : (((n : Int) / (m : Int) % 2 == 1)) = decide (n / m % 2 = 1) := by
  by_cases h : n / m % 2 = 1
  · simp [h]; omega
  · simp [h]; omega
set_option maxHeartbeats 1000000 in
theorem specFarmGet_in (t : ByteArray) (w : World) (h : t.size = 4) :
    Calls Tryd.prog 111 #[.string t] w fun e w' => e = .returned (.tuple #[fatV t, .bool (fatOk t)]) ∧ Below w.heap.size w w' := by
  have HG : Hid ((w.alloc (.cells #[.bool false, .bool false, .bool false, .int .i64 0, .int .i64 0] 144)).heap[w.heap.size]? = some (.cells #[.bool false, .bool false, .bool false, .int .i64 0, .int .i64 0] 144)) := get_new rfl
  have HB : Hid (Below w.heap.size w (w.alloc (.cells #[.bool false, .bool false, .bool false, .int .i64 0, .int .i64 0] 144))) := (Below.refl _ _).alloc (Nat.le_refl _) _
  have hne : ((t.size : Int) == 4) = true := by simp; omega
  have hx2 : ∀ h : 2 < t.size, (t[2]'h).toNat = byteAt t 2 := fun h => byteAt_eq t 2 h
  have hx3 : ∀ h : 3 < t.size, (t[3]'h).toNat = byteAt t 3 := fun h => byteAt_eq t 3 h
  have hb2 := byteAt_lt t 2
  have hb3 := byteAt_lt t 3
  have q1 : ((byteAt t 2 : Int) / 32 % 2 == 1) = decide (byteAt t 2 / 32 % 2 = 1) := beq_nat2 _ 32
  have q2 : ((byteAt t 2 : Int) / 16 % 2 == 1) = decide (byteAt t 2 / 16 % 2 = 1) := beq_nat2 _ 16
  have q3 : ((byteAt t 2 : Int) / 8 % 2 == 1) = decide (byteAt t 2 / 8 % 2 = 1) := beq_nat2 _ 8
  go_enter Tryd.func111, Tryd.ntmps111
  go_wp2_with fail
  refine (specFarmPut_any _ _ _ _ _ _).mono ?_
  rintro e w1 ⟨rfl, hb⟩
  have HG2 : Hid (w1.heap[w.heap.size]? = some (.cells #[.bool false, .bool false, .bool false, .int .i64 0, .int .i64 0] 144)) := get_below hb (get_alloc HG.out (by simp)) (by simp <;> omega)
  have HX2 : Hid (w1.heap[w.heap.size + 1]? = some (.cells #[.bool (decide (byteAt t 2 / 32 % 2 = 1)), .bool (decide (byteAt t 2 / 16 % 2 = 1)), .bool (decide (byteAt t 2 / 8 % 2 = 1)), .int .i64 ((byteAt t 2 : Int) / 2 % 4), .int .i64 (byteAt t 3 : Int)] 144)) := get_below hb (get_new (by simp)) (by simp <;> omega)
  have HB2 : Hid (Below w.heap.size w w1) := (HB.out.alloc (by simp) _).trans (hb.mono (by simp; omega))
  clear hb HG HB
  have hsz := size_of_get HX2.out
  obtain ⟨r0, r1, r2, r3, r4⟩ := cells5_of HG2.out
  obtain ⟨k0, k1, k2, k3, k4⟩ := cells5_of HX2.out
  have fz : ∀ j, w1.frozen? ⟨w.heap.size, j, none⟩ = false := fun j => frozen_get HG2.out
  have hbe : ((faPut (decide (byteAt t 2 / 32 % 2 = 1)) (decide (byteAt t 2 / 16 % 2 = 1)) (decide (byteAt t 2 / 8 % 2 = 1)) ((byteAt t 2 : Int) / 2 % 4) (byteAt t 3 : Int)).toList == t.toList) = fatOk t := by
    have h1 : ∀ x : ByteArray, (x.toList == t.toList) = decide (x = t) := fun x => by
      by_cases h : x = t
      · subst h; simp
      · have : x.toList ≠ t.toList := fun e => h (by rw [ByteArray.toList_eq, ByteArray.toList_eq] at e; exact bytes_inj e)
        simp [h, this]
    rw [h1]; simp [fatOk, h]
  cases hf : fatOk t with
  | false =>
    have hv : fatV t = .agg #[.bool false, .bool false, .bool false, .int .i64 0, .int .i64 0] := by simp [fatV, hf]
    have HV : Hid _ := hv
    rw [hf] at hbe
    have HF : Hid _ := hf
    have hbn : ((faPut (decide (byteAt t 2 / 32 % 2 = 1)) (decide (byteAt t 2 / 16 % 2 = 1)) (decide (byteAt t 2 / 8 % 2 = 1)) ((byteAt t 2 : Int) / 2 % 4) (byteAt t 3 : Int)).toList != t.toList) = true := by unfold bne; rw [hbe]; rfl
    clear hv hf
    go_wp2_with fail
    refine bodyPost_ret (v := .tuple #[.agg #[.bool false, .bool false, .bool false, .int .i64 0, .int .i64 0], .bool false]) (results_row_tmp Tryd.results111 _ _ (w.heap.size) 144 #[.bool false, .bool false, .bool false, .int .i64 0, .int .i64 0] (0, 0) _ rfl ?_ Tryd.underlying144 rfl cellsFarm _ rfl) rfl ⟨by rw [HF.out, HV.out], ?_⟩
    · exact get_set (get_set (get_set (get_set (get_set (HG2.out) rfl) rfl) rfl) rfl) rfl
    · exact belowS (belowS (belowS (belowS (belowS (HB2.out) (by omega)) (by omega)) (by omega)) (by omega)) (by omega)
  | true =>
    have hv : fatV t = .agg #[.bool (decide (byteAt t 2 / 32 % 2 = 1)), .bool (decide (byteAt t 2 / 16 % 2 = 1)), .bool (decide (byteAt t 2 / 8 % 2 = 1)), .int .i64 ((byteAt t 2 : Int) / 2 % 4), .int .i64 (byteAt t 3 : Int)] := by unfold fatV; rw [if_pos hf]
    have HV : Hid _ := hv
    rw [hf] at hbe
    have HF : Hid _ := hf
    have hbn : ((faPut (decide (byteAt t 2 / 32 % 2 = 1)) (decide (byteAt t 2 / 16 % 2 = 1)) (decide (byteAt t 2 / 8 % 2 = 1)) ((byteAt t 2 : Int) / 2 % 4) (byteAt t 3 : Int)).toList != t.toList) = false := by unfold bne; rw [hbe]; rfl
    clear hv hf
    go_wp2_with fail
    refine bodyPost_ret (v := .tuple #[.agg #[.bool (decide (byteAt t 2 / 32 % 2 = 1)), .bool (decide (byteAt t 2 / 16 % 2 = 1)), .bool (decide (byteAt t 2 / 8 % 2 = 1)), .int .i64 ((byteAt t 2 : Int) / 2 % 4), .int .i64 (byteAt t 3 : Int)], .bool true]) (results_row_tmp Tryd.results111 _ _ (w.heap.size) 144 #[.bool (decide (byteAt t 2 / 32 % 2 = 1)), .bool (decide (byteAt t 2 / 16 % 2 = 1)), .bool (decide (byteAt t 2 / 8 % 2 = 1)), .int .i64 ((byteAt t 2 : Int) / 2 % 4), .int .i64 (byteAt t 3 : Int)] (0, 0) _ rfl ?_ Tryd.underlying144 rfl cellsFarm _ rfl) rfl ⟨by rw [HF.out, HV.out], ?_⟩
    · exact get_set (get_set (get_set (get_set (get_set (HG2.out) rfl) rfl) rfl) rfl) rfl
    · exact belowS (belowS (belowS (belowS (belowS (HB2.out) (by omega)) (by omega)) (by omega)) (by omega)) (by omega)
theorem specFarmGet_any (t : ByteArray) (w : World) (ht : t.size ≤ maxLen) :
    Calls Tryd.prog 111 #[.string t] w fun e w' => e = .returned (.tuple #[fatV t, .bool (fatOk t)]) ∧ Below w.heap.size w w' := by
  by_cases h : t.size = 4
  · exact specFarmGet_in t w h
  · exact specFarmGet_out t w ht h
theorem fatV_agg (t : ByteArray) : ∃ (s wt ag : Bool) (c n : Int), fatV t = .agg #[.bool s, .bool wt, .bool ag, .int .i64 c, .int .i64 n] := by
  unfold fatV
  split
  · exact ⟨_, _, _, _, _, rfl⟩
  · exact ⟨_, _, _, _, _, rfl⟩
end Go.Proofs.YtccpdadabndleaaDoor
