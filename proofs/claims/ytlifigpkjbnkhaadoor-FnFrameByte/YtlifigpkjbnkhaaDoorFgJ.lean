/- impl.FrameGet. -/
import Derived.Test.YtlifigpkjbnkhaaDoorFgI
import Derived.Deep.RegionWith
namespace Go.Proofs.YtlifigpkjbnkhaaDoor
open Go.ChangeShapes Go.WideShapes Go.ChangeAt Go.RowKit
set_option linter.unusedVariables false

/-- How long the frame is that a text says it begins with. -/
def fgN (t : ByteArray) : Nat := gt t 2 2 % 1024 + 1
def fgIn (t : ByteArray) : Bool := decide (7 ≤ fgN t) && decide (fgN t ≤ t.size)
theorem frm_good {t : ByteArray} {hd wy sq : Nat} {d : ByteArray} {a : Int} {ok : Bool} (h : frm t hd wy sq d a ok) (hi : fgIn t = true) :
    hd = gt t 0 2 ∧ wy = gt t 2 2 ∧ sq = gt t 4 1 ∧ d = t.extract 5 (fgN t - 2) ∧ a = fgN t ∧ ok = true := by
  simp only [fgIn, Bool.and_eq_true, decide_eq_true_eq] at hi
  obtain ⟨a1, a2, a3, a4, o1, o2, o3, o4, rfl, rfl, rfl, rfl, rfl, rfl, rfl, rfl, rfl, rfl, rfl, rfl, rfl, rfl⟩ := h
  have c1 : canR t 0 2 true = true := by simp [canR]; omega
  have t1 : toR t 0 2 true = 2 := by simp [toR, c1]
  have n1 : numR t 0 2 true = gt t 0 2 := by unfold numR; exact if_pos c1
  rw [c1, t1, n1]
  have c2 : canR t 2 2 true = true := by simp [canR]; omega
  have t2 : toR t 2 2 true = 4 := by simp [toR, c2]
  have n2 : numR t 2 2 true = gt t 2 2 := by unfold numR; exact if_pos c2
  rw [c2, t2, n2]
  have c3 : canR t 4 1 true = true := by simp [canR]; omega
  have t3 : toR t 4 1 true = 5 := by simp [toR, c3]
  have n3 : numR t 4 1 true = gt t 4 1 := by unfold numR; exact if_pos c3
  rw [c3, t3, n3]
  have hN : ((gt t 2 2 : Nat) : Int) % 1024 + 1 - 7 = (fgN t : Int) - 7 := by unfold fgN; omega
  rw [hN]
  have c4 : canR t 5 ((fgN t : Int) - 7) true = true := by simp [canR]; omega
  have t4 : toR t 5 ((fgN t : Int) - 7) true = (fgN t : Int) - 2 := by simp [toR, c4]; omega
  have d4 : cutR t 5 ((fgN t : Int) - 7) true = t.extract 5 (fgN t - 2) := by
    unfold cutR; rw [if_pos c4, show (5 + ((fgN t : Int) - 7)).toNat = fgN t - 2 from by omega]; rfl
  rw [c4, t4, d4]
  have c5 : canR t ((fgN t : Int) - 2) 2 true = true := by simp [canR]; omega
  have t5 : toR t ((fgN t : Int) - 2) 2 true = (fgN t : Int) := by simp [toR, c5]
  exact ⟨rfl, rfl, rfl, rfl, t5, c5⟩
theorem frm_bad {t : ByteArray} {hd wy sq : Nat} {d : ByteArray} {a : Int} {ok : Bool} (h : frm t hd wy sq d a ok) (hi : fgIn t = false) : ok = false := by
  cases ok with
  | false => rfl
  | true =>
    exfalso
    obtain ⟨a1, a2, a3, a4, o1, o2, o3, o4, _, ea1, eo1, ew, ea2, eo2, _, ea3, eo3, _, ea4, eo4, _, h5⟩ := h
    have two : ∀ x n b, true = canR t x n b → b = true ∧ 0 ≤ n ∧ n ≤ t.size - x := fun x n b h => by
      simpa [canR, and_assoc] using h.symm
    obtain ⟨rfl, m5⟩ := two _ _ _ h5
    obtain ⟨rfl, m4⟩ := two _ _ _ eo4
    obtain ⟨rfl, m3⟩ := two _ _ _ eo3
    obtain ⟨rfl, m2⟩ := two _ _ _ eo2
    have t1 : a1 = 2 := by rw [ea1]; unfold toR; rw [if_pos eo1.symm]; rfl
    subst t1
    have n2 : wy = gt t 2 2 := by rw [ew]; unfold numR; exact if_pos eo2.symm
    have t2 : a2 = 4 := by rw [ea2]; unfold toR; rw [if_pos eo2.symm]; rfl
    subst t2
    have t3 : a3 = 5 := by rw [ea3]; unfold toR; rw [if_pos eo3.symm]; rfl
    subst t3
    have hN : (wy : Int) % 1024 + 1 - 7 = (fgN t : Int) - 7 := by rw [n2]; unfold fgN; omega
    rw [hN] at m4 ea4 eo4
    have t4 : a4 = (fgN t : Int) - 2 := by rw [ea4]; unfold toR; rw [if_pos eo4.symm]; omega
    simp only [fgIn, Bool.and_eq_false_iff, decide_eq_false_iff_not] at hi
    omega
/-- The frame with which a text begins, and whether there is one. -/
def fgP (t : ByteArray) : Bool := decide (gt t 0 2 / 8192 % 2 = 1)
def fgG (t : ByteArray) : Bool := decide (gt t 0 2 / 4096 % 2 = 1)
def fgD (t : ByteArray) : ByteArray := t.extract 5 (fgN t - 2)
def fgPut (t : ByteArray) : ByteArray := frPut (fgP t) (fgG t) (gt t 0 2 % 1024 : Nat) (gt t 2 2 / 1024 : Nat) (gt t 4 1) (fgD t)
def fgOk (t : ByteArray) : Bool := decide (t.size ≤ 63) && fgIn t && decide (fgPut t = t.extract 0 (fgN t))
def fgV (t : ByteArray) : Value := if fgOk t = true then .agg #[.bool (fgP t), .bool (fgG t), .int .i64 (gt t 0 2 % 1024 : Nat), .int .i64 (gt t 2 2 / 1024 : Nat), .int .i64 (gt t 4 1 : Nat), .string (fgD t)] else .agg #[.bool false, .bool false, .int .i64 0, .int .i64 0, .int .i64 0, .string ⟨#[]⟩]
set_option maxHeartbeats 1000000 in
theorem implFrameGet_long (t : ByteArray) (w : World) (ht : t.size ≤ maxLen) (h : 63 < t.size) :
    Calls Tryd.prog 9 #[.string t] w fun e w' => e = .returned (.tuple #[fgV t, .bool (fgOk t)]) ∧ Below w.heap.size w w' := by
  have e1 : fgOk t = false := by simp [fgOk]; omega
  have e2 : fgV t = .agg #[.bool false, .bool false, .int .i64 0, .int .i64 0, .int .i64 0, .string ⟨#[]⟩] := by simp [fgV, e1]
  have HG : Hid ((w.alloc (.cells #[.bool false, .bool false, .int .i64 0, .int .i64 0, .int .i64 0, .string ⟨#[]⟩] 23)).heap[w.heap.size]? = some (.cells #[.bool false, .bool false, .int .i64 0, .int .i64 0, .int .i64 0, .string ⟨#[]⟩] 23)) := get_new rfl
  have HB : Hid (Below w.heap.size w (w.alloc (.cells #[.bool false, .bool false, .int .i64 0, .int .i64 0, .int .i64 0, .string ⟨#[]⟩] 23))) := (Below.refl _ _).alloc (Nat.le_refl _) _
  unfold maxLen at ht
  rw [e1, e2]
  clear e1 e2
  go_enter Tryd.func9, Tryd.ntmps9
  go_wp2_with fail
  refine bodyPost_ret (v := .tuple #[.agg #[.bool false, .bool false, .int .i64 0, .int .i64 0, .int .i64 0, .string ⟨#[]⟩], .bool false]) (results_row_tmp Tryd.results9 _ _ (w.heap.size) 23 #[.bool false, .bool false, .int .i64 0, .int .i64 0, .int .i64 0, .string ⟨#[]⟩] (0, 0) _ rfl ?_ Tryd.underlying23 rfl cells26 _ rfl) rfl ⟨rfl, ?_⟩
  · exact HG.out
  · exact HB.out
theorem bstepF {w W W' : World} (hb : Below W.heap.size W W') (h : Below w.heap.size w W) : Below w.heap.size w W' := h.trans (hb.mono h.size)
theorem list_beq (x y : ByteArray) : (x.toList == y.toList) = decide (x = y) := by
  by_cases h : x = y
  · subst h; simp
  · have : x.toList ≠ y.toList := fun e => h (by
      rw [ByteArray.toList_eq, ByteArray.toList_eq] at e; exact bytes_inj e)
    simp [h, this]
theorem fg_end {t : ByteArray} {hd wy sq : Nat} {d : ByteArray} {a : Int} {ok q : Bool} (hf : frm t hd wy sq d a ok) (h63 : t.size ≤ 63)
    (hq : q = (ok && (frPut (decide (hd / 8192 % 2 = 1)) (decide (hd / 4096 % 2 = 1)) ((hd : Int) % 1024) ((wy : Int) / 1024) (sq : Int) d).toList == (t.extract 0 a.toNat).toList)) :
    fgOk t = q ∧ fgV t = if q = true then .agg #[.bool (decide (hd / 8192 % 2 = 1)), .bool (decide (hd / 4096 % 2 = 1)), .int .i64 ((hd : Int) % 1024), .int .i64 ((wy : Int) / 1024), .int .i64 (sq : Int), .string d] else .agg #[.bool false, .bool false, .int .i64 0, .int .i64 0, .int .i64 0, .string ⟨#[]⟩] := by
  rw [list_beq] at hq
  cases hi : fgIn t with
  | false =>
    have e := frm_bad hf hi
    have e2 : fgOk t = false := by simp [fgOk, hi]
    rw [e] at hq
    simp only [Bool.false_and] at hq
    subst hq
    exact ⟨e2, by simp [fgV, e2]⟩
  | true =>
    obtain ⟨rfl, rfl, rfl, rfl, rfl, rfl⟩ := frm_good hf hi
    have e2 : fgOk t = q := by
      rw [hq]; simp only [fgOk, hi, fgPut, fgP, fgG, fgD, h63, decide_true, Bool.true_and, Int.toNat_natCast]
      rfl
    refine ⟨e2, ?_⟩
    unfold fgV
    rw [e2]
    rfl
set_option maxHeartbeats 1000000 in
theorem implFrameGet_short (t : ByteArray) (w : World) (h : t.size ≤ 63) (he : Errs w) :
    Calls Tryd.prog 9 #[.string t] w fun e w' => e = .returned (.tuple #[fgV t, .bool (fgOk t)]) ∧ Below w.heap.size w w' := by
  have hm : t.size ≤ maxLen := by unfold maxLen; omega
  have hl := he.lt
  have HM : Hid (t.size ≤ maxLen) := hm
  have HGr : Hid ((w.alloc (.cells #[.bool false, .bool false, .int .i64 0, .int .i64 0, .int .i64 0, .string ⟨#[]⟩] 23)).heap[w.heap.size]? = some (.cells #[.bool false, .bool false, .int .i64 0, .int .i64 0, .int .i64 0, .string ⟨#[]⟩] 23)) := get_new rfl
  have HCB : Hid (((w.alloc (.cells #[.bool false, .bool false, .int .i64 0, .int .i64 0, .int .i64 0, .string ⟨#[]⟩] 23)).alloc (.cells #[.string t, .int .i64 0, .nilIface] 47)).heap[w.heap.size + 1]? = some (.cells #[.string t, .int .i64 0, .nilIface] 47)) := get_new (by simp)
  have HE : Hid (Errs ((w.alloc (.cells #[.bool false, .bool false, .int .i64 0, .int .i64 0, .int .i64 0, .string ⟨#[]⟩] 23)).alloc (.cells #[.string t, .int .i64 0, .nilIface] 47))) := he.below (((Below.refl _ _).alloc (Nat.le_refl _) _).alloc (by simp) _)
  clear he hm
  go_enter Tryd.func9, Tryd.ntmps9
  go_wp2_with fail
  have HC0 : Hid (Cur ((w.alloc (.cells #[.bool false, .bool false, .int .i64 0, .int .i64 0, .int .i64 0, .string ⟨#[]⟩] 23)).alloc (.cells #[.string t, .int .i64 0, .nilIface] 47)) (w.heap.size + 1) t 0 true) := Cur.yes (by omega) (by omega) (by omega) HCB.out
  refine (frame_any (w.heap.size + 1) t _ h HE.out HC0.out).mono ?_
  rintro e w1 ⟨hd, wy, sq, d, a, ok, rfl, ho, hc, hf⟩
  have HGr1 : Hid (w1.heap[w.heap.size]? = some (.cells #[.bool false, .bool false, .int .i64 0, .int .i64 0, .int .i64 0, .string ⟨#[]⟩] 23)) := getO ho (get_alloc HGr.out (by simp)) (by omega)
  have HE1 : Hid (Errs w1) := HE.out.only ho (by omega)
  have HO1 : Hid (Below w.heap.size w w1) := (((Below.refl _ _).alloc (Nat.le_refl _) _).alloc (by simp) _).trans (ho.below (by omega) (by simp; omega))
  have HC1 : Hid (Cur w1 (w.heap.size + 1) t a ok) := hc
  have HF : Hid _ := hf
  have hdm : d.size ≤ maxLen := by
    obtain ⟨_, _, a3, _, _, _, o3, _, _, _, _, _, _, _, _, _, _, hd4, _⟩ := hf
    rw [hd4]; exact Nat.le_trans (cutR_le _ _ _ _) HM.out
  have hz1 := HC1.out.lt
  have ha0 := hc.2.1
  have ha1 := hc.2.2.1
  clear ho hc hf HE HC0 HCB HGr
  have HGr : Hid ((w1.alloc (.cells #[.bool (decide (hd / 8192 % 2 = 1)), .bool (decide (hd / 4096 % 2 = 1)), .int .i64 ((hd : Int) % 1024), .int .i64 ((wy : Int) / 1024), .int .i64 (sq : Int), .string d] 23)).heap[w.heap.size]? = some (.cells #[.bool false, .bool false, .int .i64 0, .int .i64 0, .int .i64 0, .string ⟨#[]⟩] 23)) := get_alloc HGr1.out (by omega)
  have HBx : Hid ((w1.alloc (.cells #[.bool (decide (hd / 8192 % 2 = 1)), .bool (decide (hd / 4096 % 2 = 1)), .int .i64 ((hd : Int) % 1024), .int .i64 ((wy : Int) / 1024), .int .i64 (sq : Int), .string d] 23)).heap[w1.heap.size]? = some (.cells #[.bool (decide (hd / 8192 % 2 = 1)), .bool (decide (hd / 4096 % 2 = 1)), .int .i64 ((hd : Int) % 1024), .int .i64 ((wy : Int) / 1024), .int .i64 (sq : Int), .string d] 23)) := get_new rfl
  have HE : Hid (Errs (w1.alloc (.cells #[.bool (decide (hd / 8192 % 2 = 1)), .bool (decide (hd / 4096 % 2 = 1)), .int .i64 ((hd : Int) % 1024), .int .i64 ((wy : Int) / 1024), .int .i64 (sq : Int), .string d] 23))) := HE1.out.below ((Below.refl _ _).alloc (Nat.le_refl _) _)
  have HC : Hid (Cur (w1.alloc (.cells #[.bool (decide (hd / 8192 % 2 = 1)), .bool (decide (hd / 4096 % 2 = 1)), .int .i64 ((hd : Int) % 1024), .int .i64 ((wy : Int) / 1024), .int .i64 (sq : Int), .string d] 23)) (w.heap.size + 1) t a ok) := HC1.out.below ((Below.refl _ _).alloc (Nat.le_refl _) _)
  have HO : Hid (Below w.heap.size w (w1.alloc (.cells #[.bool (decide (hd / 8192 % 2 = 1)), .bool (decide (hd / 4096 % 2 = 1)), .int .i64 ((hd : Int) % 1024), .int .i64 ((wy : Int) / 1024), .int .i64 (sq : Int), .string d] 23))) := HO1.out.alloc HO1.out.size _
  clear HGr1 HE1 HC1 HO1
  go_wp2_with fail
  generalize hws : (w1.alloc (.cells #[.bool (decide (hd / 8192 % 2 = 1)), .bool (decide (hd / 4096 % 2 = 1)), .int .i64 ((hd : Int) % 1024), .int .i64 ((wy : Int) / 1024), .int .i64 (sq : Int), .string d] 23)) = ws at *
  clear hws
  obtain ⟨k0, k1, k2, k3, k4, k5⟩ := cells6_of HBx.out
  have J1 : Hid (ws.cell? ⟨w.heap.size + 1, 1, none⟩ = some (.int .i64 a)) := by
    obtain ⟨_, _, _, F, _, _, hg⟩ := HC.out
    exact (cells3_of hg).2.1
  have j1 := J1.out
  have hz2 := HC.out.lt
  have hbs := size_of_get HBx.out
  go_region_with ((first | (go_at_call 20; go_loud (refine (implFramePut_any _ _ _ _ _ d _ hdm).mono ?_; rintro e w8 ⟨rfl, hb8⟩; have HK : Hid (Below ws.heap.size ws w8) := bstepF hb8 (by repeat (first | with_reducible assumption | exact HK.out | exact Below.refl _ _ | refine Below.drew ?_ | refine Below.alloc ?_ (by simp <;> omega) _)); clear hb8; have j1 : w8.cell? ⟨w.heap.size + 1, 1, none⟩ = some (.int .i64 a) := (HK.out.cell (p := ⟨_, 1, none⟩) (by simp; omega)).trans J1.out)) | (go_at_call 29; go_loud (refine (must_any (w.heap.size + 1) t a ok _ _ (Errs.below HE.out (by repeat (first | with_reducible assumption | exact HK.out | exact Below.refl _ _ | refine Below.drew ?_ | refine Below.alloc ?_ (by simp <;> omega) _))) (Cur.below HC.out (by repeat (first | with_reducible assumption | exact HK.out | exact Below.refl _ _ | refine Below.drew ?_ | refine Below.alloc ?_ (by simp <;> omega) _)))).mono ?_; rintro e w9 ⟨rfl, ho9, hc9⟩; have HO9 : Hid (Only (w.heap.size + 1) ws w9) := (Only.of_below (by repeat (first | with_reducible assumption | exact HK.out | exact Below.refl _ _ | refine Below.drew ?_ | refine Below.alloc ?_ (by simp <;> omega) _))).trans ho9; have HC9 : Hid (∃ q, q = (ok && _) ∧ Cur w9 (w.heap.size + 1) t a q) := ⟨_, rfl, hc9⟩; clear ho9 hc9))))
  all_goals
    obtain ⟨q, hq, hc9⟩ := HC9.out
    obtain ⟨e1, e2⟩ := fg_end HF.out h hq
    have E1 : Hid (fgOk t = q) := e1
    have E2 : Hid _ := e2
    have HGr9 : Hid (w9.heap[w.heap.size]? = some (.cells #[.bool false, .bool false, .int .i64 0, .int .i64 0, .int .i64 0, .string ⟨#[]⟩] 23)) := getO HO9.out HGr.out (by omega)
    have HBx9 : Hid (w9.heap[w1.heap.size]? = some (.cells #[.bool (decide (hd / 8192 % 2 = 1)), .bool (decide (hd / 4096 % 2 = 1)), .int .i64 ((hd : Int) % 1024), .int .i64 ((wy : Int) / 1024), .int .i64 (sq : Int), .string d] 23)) := getO HO9.out HBx.out (by omega)
    have HB9 : Hid (Below w.heap.size w w9) := HO.out.trans (HO9.out.below (by omega) (by omega))
    clear hq e1 e2 k0 k1 k2 k3 k4 k5 j1 HC9
    obtain ⟨h2, h0, h1, F, hf1, hf2, hg⟩ := hc9
    obtain ⟨l0, l1, l2⟩ := cells3_of hg
    obtain ⟨r0, r1, r2, r3, r4, r5⟩ := cells6_of HGr9.out
    obtain ⟨k0, k1, k2, k3, k4, k5⟩ := cells6_of HBx9.out
    have fz : ∀ j, w9.frozen? ⟨w.heap.size, j, none⟩ = false := fun j => frozen_get HGr9.out
    clear hg
    cases q with
    | false =>
      obtain ⟨x, rfl⟩ := hf2 rfl
      go_wp2_with fail
      refine bodyPost_ret (v := .tuple #[.agg #[.bool false, .bool false, .int .i64 0, .int .i64 0, .int .i64 0, .string ⟨#[]⟩], .bool false]) (results_row_tmp Tryd.results9 _ _ (w.heap.size) 23 #[.bool false, .bool false, .int .i64 0, .int .i64 0, .int .i64 0, .string ⟨#[]⟩] (0, 0) _ rfl ?_ Tryd.underlying23 rfl cells26 _ rfl) rfl ⟨by rw [E1.out, E2.out]; rfl, ?_⟩
      · exact get_set (get_set (get_set (get_set (get_set (get_set (HGr9.out) rfl) rfl) rfl) rfl) rfl) rfl
      · exact belowS (belowS (belowS (belowS (belowS (belowS (HB9.out) (by omega)) (by omega)) (by omega)) (by omega)) (by omega)) (by omega)
    | true =>
      obtain rfl := hf1 rfl
      go_wp2_with fail
      refine bodyPost_ret (v := .tuple #[.agg #[.bool (decide (hd / 8192 % 2 = 1)), .bool (decide (hd / 4096 % 2 = 1)), .int .i64 ((hd : Int) % 1024), .int .i64 ((wy : Int) / 1024), .int .i64 (sq : Int), .string d], .bool true]) (results_row_tmp Tryd.results9 _ _ (w.heap.size) 23 #[.bool (decide (hd / 8192 % 2 = 1)), .bool (decide (hd / 4096 % 2 = 1)), .int .i64 ((hd : Int) % 1024), .int .i64 ((wy : Int) / 1024), .int .i64 (sq : Int), .string d] (0, 0) _ rfl ?_ Tryd.underlying23 rfl cells26 _ rfl) rfl ⟨by rw [E1.out, E2.out]; rfl, ?_⟩
      · exact get_set (get_set (get_set (get_set (get_set (get_set (HGr9.out) rfl) rfl) rfl) rfl) rfl) rfl
      · exact belowS (belowS (belowS (belowS (belowS (belowS (HB9.out) (by omega)) (by omega)) (by omega)) (by omega)) (by omega)) (by omega)
end Go.Proofs.YtlifigpkjbnkhaaDoor
