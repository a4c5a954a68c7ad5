/- What a text says of a frame down: pure facts, and the cursor's reads. -/
import Derived.Test.YtccpdadabndleaaDoorDnQ
namespace Go.Proofs.YtccpdadabndleaaDoor
open Go.ChangeShapes Go.WideShapes Go.ChangeAt Go.RowKit
set_option linter.unusedVariables false

def dgPut (t : ByteArray) : ByteArray := dnPut ((gt t 0 2 : Int) / 16 % 1024) ((gt t 0 2 : Int) / 2 % 8) (byteAt t 2 : Nat) (byteAt t 3 : Nat) ((gt t 4 2 : Int) % 2048) (t.extract 6 34) (t.extract 34 38)
def dgOk (t : ByteArray) : Bool := decide (t.size = 40) && decide (dgPut t = t)
def dgV (t : ByteArray) : Value := if dgOk t = true then .agg #[.int .i64 ((gt t 0 2 : Int) / 16 % 1024), .int .i64 ((gt t 0 2 : Int) / 2 % 8), .int .i64 (byteAt t 2 : Nat), .int .i64 (byteAt t 3 : Nat), .int .i64 ((gt t 4 2 : Int) % 2048), .string (t.extract 6 34), .string (t.extract 34 38)] else .agg #[.int .i64 0, .int .i64 0, .int .i64 0, .int .i64 0, .int .i64 0, .string ⟨#[]⟩, .string ⟨#[]⟩]
theorem dgV_no {t : ByteArray} (h : dgOk t = false) : dgV t = .agg #[.int .i64 0, .int .i64 0, .int .i64 0, .int .i64 0, .int .i64 0, .string ⟨#[]⟩, .string ⟨#[]⟩] := by unfold dgV; rw [h]; rfl
theorem dgV_agg (t : ByteArray) : ∃ (cr wh al ow fi : Int) (d f : ByteArray), dgV t = .agg #[.int .i64 cr, .int .i64 wh, .int .i64 al, .int .i64 ow, .int .i64 fi, .string d, .string f] := by
  unfold dgV
  split
  · exact ⟨_, _, _, _, _, _, _, rfl⟩
  · exact ⟨_, _, _, _, _, _, _, rfl⟩
/-- What is put is read back. -/
theorem dn_read {cr wh al ow fi : Int} {d f t : ByteArray} (h : dnOk cr wh al ow fi d f = true) (hT : t = dnPut cr wh al ow fi d f) :
    t.size = 40 ∧ (gt t 0 2 : Int) = cr * 16 + wh * 2 + 1 ∧ (byteAt t 2 : Int) = al ∧ (byteAt t 3 : Int) = ow ∧ (gt t 4 2 : Int) = 6144 + fi ∧ t.extract 6 34 = d ∧ t.extract 34 38 = f := by
  obtain ⟨q, p1, p2, p3, p4, p5, p6, p7, p8, p9, p10, p11, p12⟩ := dnOk_all h
  have hl := dnT_lst h
  have hz := dnT_size h
  have ht : t = cmW (dnT cr wh al ow fi d f) := by rw [hT]; unfold dnPut; rw [if_pos h]
  have htl := cmW_lst (dnT cr wh al ow fi d f)
  rw [← ht, hl] at htl
  generalize hiB (crcTo (dnT cr wh al ow fi d f) (dnT cr wh al ow fi d f).size : Nat) = x at htl
  generalize loB (crcTo (dnT cr wh al ow fi d f) (dnT cr wh al ow fi d f).size : Nat) = y at htl
  have hdl : (lsP d).length = 28 := by rw [lsP_size]; exact p12
  have hfl : (lsP f).length = 4 := by rw [lsP_size]; exact p1
  refine ⟨?_, ?_, ?_, ?_, ?_, ?_, ?_⟩
  · rw [← lsP_size, htl]; simp; omega
  · rw [gt2P, byteAt_lsP, byteAt_lsP, htl]
    have := hiloP (h := cr * 16 + wh * 2 + 1) (by omega) (by omega)
    simp only [List.cons_append, List.nil_append, List.getD_cons_zero, List.getD_cons_succ]
    omega
  · rw [byteAt_lsP, htl]
    simp only [List.cons_append, List.nil_append, List.getD_cons_zero, List.getD_cons_succ]
    rw [UInt8.toNat_ofNat']; omega
  · rw [byteAt_lsP, htl]
    simp only [List.cons_append, List.nil_append, List.getD_cons_zero, List.getD_cons_succ]
    rw [UInt8.toNat_ofNat']; omega
  · rw [gt2P, byteAt_lsP, byteAt_lsP, htl]
    have := hiloP (h := 6144 + fi) (by omega) (by omega)
    simp only [List.cons_append, List.nil_append, List.getD_cons_zero, List.getD_cons_succ]
    omega
  · apply lsP_inj
    rw [lsP_ext, htl]
    simp only [List.cons_append, List.nil_append, List.drop_succ_cons, List.drop_zero, List.append_assoc]
    rw [show 34 - 6 = (lsP d).length by omega, List.take_left]
  · apply lsP_inj
    rw [lsP_ext, htl]
    simp only [List.cons_append, List.nil_append, List.drop_succ_cons, List.append_assoc]
    rw [show 28 = (lsP d).length by omega, List.drop_left, show 38 - 34 = (lsP f).length by omega, List.take_left]
theorem dn_ok {cr wh al ow fi : Int} {d f t : ByteArray} (hT : dnPut cr wh al ow fi d f = t) (hz : 1 ≤ t.size) : dnOk cr wh al ow fi d f = true := by
  cases h : dnOk cr wh al ow fi d f with
  | true => rfl
  | false =>
    unfold dnPut at hT
    rw [h, if_neg (by decide)] at hT
    subst hT
    exact absurd hz (by decide)
/-- What the cursor comes to: the same. -/
theorem dg_end {t : ByteArray} {h al ow fs : Nat} {d f : ByteArray} {ok q : Bool} (hok : ok = true → 38 ≤ t.size ∧ h = gt t 0 2 ∧ al = byteAt t 2 ∧ ow = byteAt t 3 ∧ fs = gt t 4 2 ∧ d = t.extract 6 34 ∧ f = t.extract 34 38) (hno : t.size = 40 → ok = true)
    (hq : q = (ok && decide (dnPut ((h : Int) / 16) ((h : Int) % 16 / 2) (al : Nat) (ow : Nat) ((fs : Int) - 6144) d f = t))) :
    dgOk t = q ∧ (q = true → dgV t = .agg #[.int .i64 ((h : Int) / 16), .int .i64 ((h : Int) % 16 / 2), .int .i64 (al : Nat), .int .i64 (ow : Nat), .int .i64 ((fs : Int) - 6144), .string d, .string f]) := by
  have key : q = true → dgOk t = true ∧ dgV t = .agg #[.int .i64 ((h : Int) / 16), .int .i64 ((h : Int) % 16 / 2), .int .i64 (al : Nat), .int .i64 (ow : Nat), .int .i64 ((fs : Int) - 6144), .string d, .string f] := fun hqt => by
    rw [hq] at hqt
    simp only [Bool.and_eq_true, decide_eq_true_eq] at hqt
    obtain ⟨h38, rfl, rfl, rfl, rfl, rfl, rfl⟩ := hok hqt.1
    have hdn := dn_ok hqt.2 (by omega)
    obtain ⟨r1, r2, r3, r4, r5, r6, r7⟩ := dn_read hdn hqt.2.symm
    obtain ⟨_, _, p2, p3, p4, p5, _, _, _, _, p10, p11, _⟩ := dnOk_all hdn
    have e1 : (gt t 0 2 : Int) / 16 % 1024 = (gt t 0 2 : Int) / 16 := by omega
    have e2 : (gt t 0 2 : Int) / 2 % 8 = (gt t 0 2 : Int) % 16 / 2 := by omega
    have e3 : (gt t 4 2 : Int) % 2048 = (gt t 4 2 : Int) - 6144 := by omega
    have hg : dgOk t = true := by
      simp only [dgOk, Bool.and_eq_true, decide_eq_true_eq]
      refine ⟨r1, ?_⟩
      unfold dgPut
      rw [e1, e2, e3]; exact hqt.2
    refine ⟨hg, ?_⟩
    unfold dgV; rw [if_pos hg, e1, e2, e3]
  refine ⟨?_, fun h => (key h).2⟩
  cases hqq : q with
  | true => exact (key hqq).1
  | false =>
    cases hg : dgOk t with
    | false => rfl
    | true =>
      exfalso
      simp only [dgOk, Bool.and_eq_true, decide_eq_true_eq] at hg
      obtain ⟨h38, rfl, rfl, rfl, rfl, rfl, rfl⟩ := hok (hno hg.1)
      have hp := hg.2
      unfold dgPut at hp
      have hdn := dn_ok hp (by omega)
      obtain ⟨r1, r2, r3, r4, r5, r6, r7⟩ := dn_read hdn hp.symm
      obtain ⟨_, _, p2, p3, p4, p5, _, _, _, _, p10, p11, _⟩ := dnOk_all hdn
      have e1 : (gt t 0 2 : Int) / 16 % 1024 = (gt t 0 2 : Int) / 16 := by omega
      have e2 : (gt t 0 2 : Int) / 2 % 8 = (gt t 0 2 : Int) % 16 / 2 := by omega
      have e3 : (gt t 4 2 : Int) % 2048 = (gt t 4 2 : Int) - 6144 := by omega
      rw [e1, e2, e3] at hp
      rw [hqq, hno hg.1, hp] at hq
      simp at hq
/-- A number, as far as it goes. -/
theorem cnum_inv (g : Nat) (t : ByteArray) (a : Int) (ok : Bool) (p k : Nat) (w : World) (ht : t.size ≤ maxLen) (he : Errs w) (hk1 : 1 ≤ k) (hk4 : k ≤ 2) (hp : ok = true → a = (p : Int)) (hy : p + k ≤ t.size → ok = true) (hc : Cur w g t a ok) :
    Calls Tryd.prog 113 #[.pointer (some ⟨g, 0, none⟩), .int .i64 k] w fun e w' => ∃ (n : Nat) (a' : Int) (ok' : Bool), n < 65536 ∧ (ok' = true → ok = true ∧ n = gt t p k ∧ p + k ≤ t.size) ∧ (ok' = true → a' = ((p + k : Nat) : Int)) ∧ (p + k ≤ t.size → ok' = true) ∧ e = .returned (.int .i64 (n : Nat)) ∧ Only g w w' ∧ Cur w' g t a' ok' := by
  refine (cnumber_any g t a k ok w ht he hk1 (by omega) hc).mono fun e w' ⟨h1, h2, h3⟩ => ⟨_, _, _, ?_, ?_, ?_, ?_, h1, h2, h3⟩
  · unfold numR
    split
    · have := gt_lt t a.toNat k
      have : (256 : Nat) ^ k ≤ 65536 := by
        have : k = 1 ∨ k = 2 := by omega
        rcases this with rfl | rfl <;> decide
      omega
    · omega
  · intro hk
    unfold numR
    rw [if_pos hk]
    simp only [canR, Bool.and_eq_true, decide_eq_true_eq] at hk
    have := hp hk.1.1
    subst this
    exact ⟨hk.1.1, by simp, by omega⟩
  · intro hk
    unfold toR
    rw [if_pos hk]
    simp only [canR, Bool.and_eq_true, decide_eq_true_eq] at hk
    rw [hp hk.1.1]; simp
  · intro hle
    have := hp (hy hle)
    simp only [canR, Bool.and_eq_true, decide_eq_true_eq]
    exact ⟨⟨hy hle, by omega⟩, by omega⟩
theorem cbytes_inv (g : Nat) (t : ByteArray) (a : Int) (ok : Bool) (p k : Nat) (w : World) (ht : t.size ≤ maxLen) (he : Errs w) (hp : ok = true → a = (p : Int)) (hy : p + k ≤ t.size → ok = true) (hc : Cur w g t a ok) :
    Calls Tryd.prog 114 #[.pointer (some ⟨g, 0, none⟩), .int .i64 (k : Nat)] w fun e w' => ∃ (s : ByteArray) (a' : Int) (ok' : Bool), s.size ≤ maxLen ∧ (ok' = true → ok = true ∧ s = t.extract p (p + k) ∧ p + k ≤ t.size) ∧ (ok' = true → a' = ((p + k : Nat) : Int)) ∧ (p + k ≤ t.size → ok' = true) ∧ e = .returned (.string s) ∧ Only g w w' ∧ Cur w' g t a' ok' := by
  refine (bytes_any g t a k ok w ht he hc).mono fun e w' ⟨h1, h2, h3⟩ => ⟨_, _, _, Nat.le_trans (cutR_le _ _ _ _) ht, ?_, ?_, ?_, h1, h2, h3⟩
  · intro hk
    unfold cutR
    rw [if_pos hk]
    simp only [canR, Bool.and_eq_true, decide_eq_true_eq] at hk
    have := hp hk.1.1
    subst this
    refine ⟨hk.1.1, ?_, by omega⟩
    rw [show (((p : Nat) : Int) + (k : Nat)).toNat = p + k by omega]
    simp
  · intro hk
    unfold toR
    rw [if_pos hk]
    simp only [canR, Bool.and_eq_true, decide_eq_true_eq] at hk
    rw [hp hk.1.1]; simp
  · intro hle
    have := hp (hy hle)
    simp only [canR, Bool.and_eq_true, decide_eq_true_eq]
    exact ⟨⟨hy hle, by omega⟩, by omega⟩
end Go.Proofs.YtccpdadabndleaaDoor
