/- impl.FrameGet: what the cursor reads of a frame. -/
import Derived.Test.YtlifigpkjbnkhaaDoorCur
import Derived.Test.YtlifigpkjbnkhaaDoorFrQ
namespace Go.Proofs.YtlifigpkjbnkhaaDoor
open Go.ChangeShapes Go.WideShapes Go.ChangeAt Go.RowKit
set_option linter.unusedVariables false

theorem getO {g b : Nat} {W0 W : World} {o : Obj} (h : Only g W0 W) (k : W0.heap[b]? = some o) (e : b ≠ g) : W.heap[b]? = some o := (h.block b (size_of_get k) e).trans k
theorem onlyW {g b j : Nat} {c : Value} {w W : World} (h : Only g w W) (hb : w.heap.size ≤ b) : Only g w (W.setCell ⟨b, j, none⟩ c) :=
  ⟨h.os, h.tape, h.output, by simpa [World.setCell] using h.size, fun k hk hn => (Below.heap_setCell _ _ _ _ (by simp; omega)).trans (h.block k hk hn)⟩
theorem Cur.set {w : World} {g b j : Nat} {t : ByteArray} {a : Int} {ok : Bool} {c : Value} (h : Cur w g t a ok) (e : g ≠ b) : Cur (w.setCell ⟨b, j, none⟩ c) g t a ok := by
  obtain ⟨h2, h0, h1, F, hf1, hf2, hg⟩ := h
  exact ⟨h2, h0, h1, F, hf1, hf2, get_set_ne hg e⟩
/-- What stands behind the five reads. -/
def frm (t : ByteArray) (hd wy sq : Nat) (d : ByteArray) (a : Int) (ok : Bool) : Prop :=
  ∃ a1 a2 a3 a4 : Int, ∃ o1 o2 o3 o4 : Bool, hd = numR t 0 2 true ∧ a1 = toR t 0 2 true ∧ o1 = canR t 0 2 true ∧ wy = numR t a1 2 o1 ∧ a2 = toR t a1 2 o1 ∧ o2 = canR t a1 2 o1 ∧
    sq = numR t a2 1 o2 ∧ a3 = toR t a2 1 o2 ∧ o3 = canR t a2 1 o2 ∧ d = cutR t a3 ((wy : Int) % 1024 + 1 - 7) o3 ∧ a4 = toR t a3 ((wy : Int) % 1024 + 1 - 7) o3 ∧ o4 = canR t a3 ((wy : Int) % 1024 + 1 - 7) o3 ∧
    a = toR t a4 2 o4 ∧ ok = canR t a4 2 o4
theorem numR_lt (t : ByteArray) (a : Int) (k : Nat) (ok : Bool) : numR t a k ok < 256 ^ k := by
  unfold numR; split
  · exact gt_lt _ _ _
  · exact Nat.pow_pos (by decide)
theorem number1 (g : Nat) (t : ByteArray) (a : Int) (ok : Bool) (w : World) (ht : t.size ≤ maxLen) (he : Errs w) (hc : Cur w g t a ok) :
    Calls Tryd.prog 31 #[.pointer (some ⟨g, 0, none⟩), .int .i64 1] w fun e w' => e = .returned (.int .i64 (numR t a 1 ok : Nat)) ∧ Only g w w' ∧ Cur w' g t (toR t a 1 ok) (canR t a 1 ok) :=
  number_any g t a 1 ok w ht he (by decide) (by decide) hc
theorem number2 (g : Nat) (t : ByteArray) (a : Int) (ok : Bool) (w : World) (ht : t.size ≤ maxLen) (he : Errs w) (hc : Cur w g t a ok) :
    Calls Tryd.prog 31 #[.pointer (some ⟨g, 0, none⟩), .int .i64 2] w fun e w' => e = .returned (.int .i64 (numR t a 2 ok : Nat)) ∧ Only g w w' ∧ Cur w' g t (toR t a 2 ok) (canR t a 2 ok) :=
  number_any g t a 2 ok w ht he (by decide) (by decide) hc
set_option maxHeartbeats 1000000 in
theorem frame_any (g : Nat) (t : ByteArray) (w : World) (ht : t.size ≤ 63) (he : Errs w) (hc : Cur w g t 0 true) :
    Calls Tryd.prog 28 #[.pointer (some ⟨g, 0, none⟩)] w fun e w' => ∃ (hd wy sq : Nat) (d : ByteArray) (a : Int) (ok : Bool), e = .returned (.agg #[.bool (decide (hd / 8192 % 2 = 1)), .bool (decide (hd / 4096 % 2 = 1)), .int .i64 (hd % 1024 : Nat), .int .i64 (wy / 1024 : Nat), .int .i64 sq, .string d]) ∧ Only g w w' ∧ Cur w' g t a ok ∧ frm t hd wy sq d a ok := by
  have hm : t.size ≤ maxLen := by unfold maxLen; omega
  have HM : Hid (t.size ≤ maxLen) := hm
  clear hm
  have hgl := hc.lt
  have HE : Hid (Errs (w.alloc (.cells #[.bool false, .bool false, .int .i64 0, .int .i64 0, .int .i64 0, .string ⟨#[]⟩] 23))) := he.below ((Below.refl _ _).alloc (Nat.le_refl _) _)
  have HC : Hid (Cur (w.alloc (.cells #[.bool false, .bool false, .int .i64 0, .int .i64 0, .int .i64 0, .string ⟨#[]⟩] 23)) g t 0 true) := hc.below ((Below.refl _ _).alloc (Nat.le_refl _) _)
  have HG : Hid ((w.alloc (.cells #[.bool false, .bool false, .int .i64 0, .int .i64 0, .int .i64 0, .string ⟨#[]⟩] 23)).heap[w.heap.size]? = some (.cells #[.bool false, .bool false, .int .i64 0, .int .i64 0, .int .i64 0, .string ⟨#[]⟩] 23)) := get_new rfl
  have HO : Hid (Only g w (w.alloc (.cells #[.bool false, .bool false, .int .i64 0, .int .i64 0, .int .i64 0, .string ⟨#[]⟩] 23))) := (Only.refl _ _).alloc _
  clear he hc
  go_enter Tryd.func28, Tryd.ntmps28
  go_wp2_with fail
  refine (number2 g t 0 true _ HM.out HE.out HC.out).mono ?_
  rintro e w1 ⟨rfl, ho, hc⟩
  have HG : Hid (w1.heap[w.heap.size]? = some (.cells #[.bool false, .bool false, .int .i64 0, .int .i64 0, .int .i64 0, .string ⟨#[]⟩] 23)) := getO ho HG.out (by omega)
  have HE : Hid (Errs w1) := HE.out.only ho hgl.1
  have HO : Hid (Only g w w1) := HO.out.trans ho
  have HC1 : Hid (Cur w1 g t _ _) := hc
  clear ho hc
  have hh : numR t 0 2 true < 65536 := numR_lt t 0 2 true
  generalize eh : numR t 0 2 true = hd at *
  generalize e1 : toR t 0 2 true = a1 at *
  generalize o1 : canR t 0 2 true = b1 at *
  go_wp2_with fail
  refine (number2 g t a1 b1 _ HM.out HE.out HC1.out).mono ?_
  rintro e w2 ⟨rfl, ho, hc⟩
  have HG : Hid (w2.heap[w.heap.size]? = some (.cells #[.bool false, .bool false, .int .i64 0, .int .i64 0, .int .i64 0, .string ⟨#[]⟩] 23)) := getO ho HG.out (by omega)
  have HE : Hid (Errs w2) := HE.out.only ho hgl.1
  have HO : Hid (Only g w w2) := HO.out.trans ho
  have HC2 : Hid (Cur w2 g t _ _) := hc
  clear ho hc
  have hw : numR t a1 2 b1 < 65536 := numR_lt t a1 2 b1
  generalize ew : numR t a1 2 b1 = wy at *
  generalize e2 : toR t a1 2 b1 = a2 at *
  generalize o2 : canR t a1 2 b1 = b2 at *
  go_wp2_with fail
  refine (number1 g t a2 b2 _ HM.out HE.out HC2.out).mono ?_
  rintro e w3 ⟨rfl, ho, hc⟩
  have HG : Hid (w3.heap[w.heap.size]? = some (.cells #[.bool false, .bool false, .int .i64 0, .int .i64 0, .int .i64 0, .string ⟨#[]⟩] 23)) := getO ho HG.out (by omega)
  have HE : Hid (Errs w3) := HE.out.only ho hgl.1
  have HO : Hid (Only g w w3) := HO.out.trans ho
  have HC3 : Hid (Cur w3 g t _ _) := hc
  clear ho hc
  have hs : numR t a2 1 b2 < 256 := numR_lt t a2 1 b2
  generalize es : numR t a2 1 b2 = sq at *
  generalize e3 : toR t a2 1 b2 = a3 at *
  generalize o3 : canR t a2 1 b2 = b3 at *
  go_wp2_with fail
  refine (bytes_any g t a3 ((wy : Int) % 1024 + 1 - 7) b3 _ HM.out HE.out HC3.out).mono ?_
  rintro e w4 ⟨rfl, ho, hc⟩
  have HG : Hid (w4.heap[w.heap.size]? = some (.cells #[.bool false, .bool false, .int .i64 0, .int .i64 0, .int .i64 0, .string ⟨#[]⟩] 23)) := getO ho HG.out (by omega)
  have HE : Hid (Errs w4) := HE.out.only ho hgl.1
  have HO : Hid (Only g w w4) := HO.out.trans ho
  have HC4 : Hid (Cur w4 g t _ _) := hc
  clear ho hc
  have hdz := cutR_le t a3 ((wy : Int) % 1024 + 1 - 7) b3
  generalize ed : cutR t a3 ((wy : Int) % 1024 + 1 - 7) b3 = d at *
  generalize e4 : toR t a3 ((wy : Int) % 1024 + 1 - 7) b3 = a4 at *
  generalize o4 : canR t a3 ((wy : Int) % 1024 + 1 - 7) b3 = b4 at *
  go_wp2_with fail
  refine (bytes_any g t a4 2 b4 _ HM.out HE.out HC4.out).mono ?_
  rintro e w5 ⟨rfl, ho, hc⟩
  have HG : Hid (w5.heap[w.heap.size]? = some (.cells #[.bool false, .bool false, .int .i64 0, .int .i64 0, .int .i64 0, .string ⟨#[]⟩] 23)) := getO ho HG.out (by omega)
  have HE : Hid (Errs w5) := HE.out.only ho hgl.1
  have HO : Hid (Only g w w5) := HO.out.trans ho
  have HC5 : Hid (Cur w5 g t _ _) := hc
  clear ho hc
  have HF : Hid (frm t hd wy sq d (toR t a4 2 b4) (canR t a4 2 b4)) := ⟨a1, a2, a3, a4, b1, b2, b3, b4, eh.symm, e1.symm, o1.symm, ew.symm, e2.symm, o2.symm, es.symm, e3.symm, o3.symm, ed.symm, e4.symm, o4.symm, rfl, rfl⟩
  clear eh e1 o1 ew e2 o2 es e3 o3 ed e4 o4 HC1 HC2 HC3 HC4
  have f1 : bits .and .i64 (hd : Int) 8192 = ((hd &&& 8192 : Nat) : Int) := i64_and hd 8192 (by omega) (by omega)
  have f2 : bits .and .i64 (hd : Int) 4096 = ((hd &&& 4096 : Nat) : Int) := i64_and hd 4096 (by omega) (by omega)
  have f3 : bits .and .i64 (hd : Int) 1023 = ((hd &&& 1023 : Nat) : Int) := i64_and hd 1023 (by omega) (by omega)
  obtain ⟨k0, k1, k2, k3, k4, k5⟩ := cells6_of HG.out
  have fz : ∀ j, w5.frozen? ⟨w.heap.size, j, none⟩ = false := fun j => frozen_get HG.out
  go_wp2_with fail
  have q1 : (((hd &&& 8192 : Nat) : Int) != 0) = decide (hd / 8192 % 2 = 1) := bit_at hd 13
  have q2 : (((hd &&& 4096 : Nat) : Int) != 0) = decide (hd / 4096 % 2 = 1) := bit_at hd 12
  have q3 : hd &&& 1023 = hd % 1024 := low_at hd 10
  refine bodyPost_ret (v := .agg #[.bool (((hd &&& 8192 : Nat) : Int) != 0), .bool (((hd &&& 4096 : Nat) : Int) != 0), .int .i64 ((hd &&& 1023 : Nat) : Int), .int .i64 ((wy : Int) / 1024), .int .i64 (sq : Int), .string d]) (results_cell_row Tryd.results28 _ _ (w.heap.size) 23 #[.bool (((hd &&& 8192 : Nat) : Int) != 0), .bool (((hd &&& 4096 : Nat) : Int) != 0), .int .i64 ((hd &&& 1023 : Nat) : Int), .int .i64 ((wy : Int) / 1024), .int .i64 (sq : Int), .string d] (0, 0) _ rfl ?_ Tryd.underlying23 rfl cells26) rfl ⟨hd, wy, sq, d, toR t a4 2 b4, canR t a4 2 b4, by rw [q1, q2, q3]; rfl, ?_, ?_, HF.out⟩
  · exact get_set (get_set (get_set (get_set (get_set (get_set (HG.out) rfl) rfl) rfl) rfl) rfl) rfl
  · exact onlyW (onlyW (onlyW (onlyW (onlyW (onlyW (HO.out) (by omega)) (by omega)) (by omega)) (by omega)) (by omega)) (by omega)
  · exact Cur.set (Cur.set (Cur.set (Cur.set (Cur.set (Cur.set (HC5.out) (by omega)) (by omega)) (by omega)) (by omega)) (by omega)) (by omega)
end Go.Proofs.YtlifigpkjbnkhaaDoor
