/- A frame's bytes, and what is read of them: pure facts. -/
import Derived.Test.YtlifigpkjbnkhaaDoorFgS
namespace Go.Proofs.YtlifigpkjbnkhaaDoor
open Go.ChangeShapes Go.WideShapes Go.ChangeAt Go.RowKit
set_option linter.unusedVariables false

def lst (t : ByteArray) : List UInt8 := t.data.toList
theorem lst_append (a b : ByteArray) : lst (a ++ b) = lst a ++ lst b := by unfold lst; simp [ByteArray.data_append]
theorem lst_size (a : ByteArray) : (lst a).length = a.size := by unfold lst; simp
theorem lst_ext (t : ByteArray) (i j : Nat) : lst (t.extract i j) = ((lst t).drop i).take (j - i) := by
  unfold lst; rw [ByteArray.data_extract, Array.toList_extract, List.extract_eq_take_drop]
theorem lst_inj {a b : ByteArray} (h : lst a = lst b) : a = b := bytes_inj h
theorem byteAt_lst (t : ByteArray) (i : Nat) : byteAt t i = ((lst t).getD i 0).toNat := rfl
theorem frW_lst (h m q : Int) (d : ByteArray) : lst (frW (frT h m q d)) = [hiB h, loB h, hiB m, loB m, loB q] ++ lst d ++ [hiB (crcTo (frT h m q d) (frT h m q d).size : Nat), loB (crcTo (frT h m q d) (frT h m q d).size : Nat)] := by
  unfold frW
  rw [lst_append]
  have e : lst (frT h m q d) = [hiB h, loB h, hiB m, loB m, loB q] ++ lst d := by
    unfold frT
    simp only [lst_append]
    rfl
  rw [e]
  rfl
theorem hilo {h : Int} (h0 : 0 ≤ h) (h1 : h < 65536) : (hiB h).toNat * 256 + (loB h).toNat = h.toNat := by
  unfold hiB loB
  rw [UInt8.toNat_ofNat', UInt8.toNat_ofNat']
  omega
theorem gt2 (t : ByteArray) (a : Nat) : gt t a 2 = byteAt t a * 256 + byteAt t (a + 1) := by simp [gt]
theorem gt1 (t : ByteArray) (a : Nat) : gt t a 1 = byteAt t a := by simp [gt]
theorem flg_bits {p g : Bool} {c : Int} (hg : g = true → p = true) (h0 : 0 ≤ c) (h1 : c ≤ 1023) :
    0 ≤ c + flg p g ∧ c + flg p g < 65536 ∧ decide ((c + flg p g).toNat / 8192 % 2 = 1) = p ∧ decide ((c + flg p g).toNat / 4096 % 2 = 1) = g ∧ (((c + flg p g).toNat % 1024 : Nat) : Int) = c := by
  cases g
  · cases p
    · simp [flg]; refine ⟨h0, by omega, by omega, by omega, by omega⟩
    · simp [flg]; refine ⟨by omega, by omega, by omega, by omega, by omega⟩
  · have := hg rfl
    subst this
    simp [flg]; refine ⟨by omega, by omega, by omega, by omega, by omega⟩
theorem fg_back {p g : Bool} {c v q : Int} {d : ByteArray} (h : frOk p g c v q d = true) (e : ByteArray) (he : e.size ≤ 3) :
    fgOk (frPut p g c v q d ++ e) = true ∧ fgV (frPut p g c v q d ++ e) = .agg #[.bool p, .bool g, .int .i64 c, .int .i64 v, .int .i64 q, .string d] := by
  obtain ⟨h0, h1, h2, h3, h4, h5, h6, h7, h8⟩ := frOk_all h
  obtain ⟨b0, b1, b2, b3, b4⟩ := flg_bits h8 h0 h1
  have hp : frPut p g c v q d = frW (frT (c + flg p g) (v * 1024 + d.size + 6) q d) := by unfold frPut; rw [if_pos h]
  have hl := frW_lst (c + flg p g) (v * 1024 + d.size + 6) q d
  rw [← hp] at hl
  generalize crcTo (frT (c + flg p g) (v * 1024 + d.size + 6) q d) (frT (c + flg p g) (v * 1024 + d.size + 6) q d).size = cr at hl
  generalize hs : frPut p g c v q d = s at *
  have hsz : s.size = d.size + 7 := by rw [← lst_size, hl]; simp [lst_size]
  have hlt : lst (s ++ e) = hiB (c + flg p g) :: loB (c + flg p g) :: hiB (v * 1024 + d.size + 6) :: loB (v * 1024 + d.size + 6) :: loB q :: (lst d ++ ([hiB (cr : Nat), loB (cr : Nat)] ++ lst e)) := by
    rw [lst_append, hl]; simp
  generalize ht : s ++ e = t at *
  have htz : t.size = d.size + 7 + e.size := by rw [← ht, ByteArray.size_append, hsz]
  have g0 : gt t 0 2 = (c + flg p g).toNat := by
    rw [gt2, byteAt_lst, byteAt_lst, hlt]
    exact hilo b0 b1
  have g2 : gt t 2 2 = (v * 1024 + d.size + 6).toNat := by
    rw [gt2, byteAt_lst, byteAt_lst, hlt]
    exact hilo (by omega) (by omega)
  have g4 : gt t 4 1 = q.toNat := by
    rw [gt1, byteAt_lst, hlt]
    show (loB q).toNat = q.toNat
    unfold loB
    rw [UInt8.toNat_ofNat']
    omega
  have hN : fgN t = d.size + 7 := by unfold fgN; rw [g2]; omega
  have hD : fgD t = d := by
    unfold fgD
    apply lst_inj
    rw [lst_ext, hlt, hN]
    show (lst d ++ _).take (d.size + 7 - 2 - 5) = lst d
    rw [show d.size + 7 - 2 - 5 = (lst d).length from by rw [lst_size]; omega, List.take_left']
    rfl
  have hpp : fgP t = p := by unfold fgP; rw [g0]; exact b2
  have hgg : fgG t = g := by unfold fgG; rw [g0]; exact b3
  have hcc : ((gt t 0 2 % 1024 : Nat) : Int) = c := by rw [g0]; exact b4
  have hvv : ((gt t 2 2 / 1024 : Nat) : Int) = v := by rw [g2]; omega
  have hqq : ((gt t 4 1 : Nat) : Int) = q := by rw [g4]; omega
  have hput : fgPut t = s := by unfold fgPut; rw [hpp, hgg, hcc, hvv, hqq, hD]; exact hs
  have hok : fgOk t = true := by
    simp only [fgOk, fgIn, Bool.and_eq_true, decide_eq_true_eq]
    refine ⟨⟨by omega, by omega, by omega⟩, ?_⟩
    rw [hput, hN]
    apply lst_inj
    rw [lst_ext, ← ht, lst_append, List.drop_zero, show d.size + 7 - 0 = (lst s).length from by rw [lst_size]; omega, List.take_left']
    rfl
  refine ⟨hok, ?_⟩
  unfold fgV
  rw [if_pos hok, hpp, hgg, hcc, hvv, hqq, hD]
theorem fg_forth {t : ByteArray} {p g : Bool} {c v q : Int} {d : ByteArray} (h : fgOk t = true) (hv : fgV t = .agg #[.bool p, .bool g, .int .i64 c, .int .i64 v, .int .i64 q, .string d]) :
    frPut p g c v q d = t.extract 0 (fgN t) ∧ fgN t ≤ t.size := by
  unfold fgV at hv
  rw [if_pos h] at hv
  simp only [Value.agg.injEq, Array.mk.injEq, List.cons.injEq, Value.bool.injEq, Value.int.injEq, Value.string.injEq, true_and, and_true] at hv
  obtain ⟨rfl, rfl, rfl, rfl, rfl, rfl⟩ := hv
  have h8 := fgOk_8 h
  simp only [fgOk, Bool.and_eq_true, decide_eq_true_eq] at h
  exact ⟨h.2, h8.2.1⟩
end Go.Proofs.YtlifigpkjbnkhaaDoor
