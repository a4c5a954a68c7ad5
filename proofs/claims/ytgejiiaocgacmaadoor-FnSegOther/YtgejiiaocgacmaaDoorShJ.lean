/- impl.SegHear. -/
import Derived.Test.YtgejiiaocgacmaaDoorShI
import Derived.Test.YtgejiiaocgacmaaDoorShG
namespace Go.Proofs.YtgejiiaocgacmaaDoor
open Go.ChangeShapes Go.WideShapes Go.ChangeAt Go.RowKit
set_option linter.unusedVariables false

theorem bit64 (b : Nat) (h : b < 256) : (bits BinOp.and IntKind.u8 (b : Int) 64 != 0) = decide (b / 64 % 2 = 1) := by
  have : ∀ b : Fin 256, (bits BinOp.and IntKind.u8 (b.val : Int) 64 != 0) = decide (b.val / 64 % 2 = 1) := by decide +kernel
  exact this ⟨b, h⟩
theorem bit128 (b : Nat) (h : b < 256) : (bits BinOp.and IntKind.u8 (b : Int) 128 != 0) = decide (2 ≤ b / 64) := by
  have : ∀ b : Fin 256, (bits BinOp.and IntKind.u8 (b.val : Int) 128 != 0) = decide (2 ≤ b.val / 64) := by decide +kernel
  exact this ⟨b, h⟩
set_option maxRecDepth 100000 in
set_option maxHeartbeats 4000000 in
theorem implSegHear_any (o : Bool) (d p : ByteArray) (via : Int) (w : World) (hd : d.size ≤ maxLen) (hp : p.size ≤ 1048576) :
    Calls Tryd.prog 17 #[.agg #[.bool o, .string d], .string p, .int .i64 via] w fun e w' => e = .returned (shA (shV o d p via)) ∧ Below w.heap.size w w' := by
  obtain ⟨j, hj⟩ : ∃ j, j = jnOk o d := ⟨_, rfl⟩
  have HL : Hid (∀ W, Calls Tryd.prog 25 #[.agg #[.bool o, .string d]] W fun e w' => e = .returned (.bool j) ∧ Below W.heap.size W w') := fun W => by
    rw [hj]; exact implJoinOk_any o d W hd
  have HB0 : Hid (Below w.heap.size w ((w.alloc (.cells #[.bool o, .string d] 25)).alloc (.cells #[.bool false, .string ⟨#[]⟩] 25))) := ((Below.refl _ _).alloc (Nat.le_refl _) _).alloc (by simp) _
  have HP0 : Hid (((w.alloc (.cells #[.bool o, .string d] 25)).alloc (.cells #[.bool false, .string ⟨#[]⟩] 25)).heap[w.heap.size]? = some (.cells #[.bool o, .string d] 25)) := get_alloc (get_new rfl) (by simp)
  have HR0 : Hid (((w.alloc (.cells #[.bool o, .string d] 25)).alloc (.cells #[.bool false, .string ⟨#[]⟩] 25)).heap[w.heap.size + 1]? = some (.cells #[.bool false, .string ⟨#[]⟩] 25)) := get_new (by simp)
  have hmx : p.size ≤ 9223372036854775807 := by omega
  cases j
  · have HX : Hid (shV o d p via = (false, ⟨#[]⟩, ⟨#[]⟩)) := by show _ = _; unfold shV; rw [← hj]; rfl
    clear hj
    go_enter Tryd.func17, Tryd.ntmps17
    go_wp2_with fail
    refine Calls.mono (HL.out _) ?_
    rintro e w1 ⟨rfl, hb1⟩
    have HB1 : Hid (Below w.heap.size w w1) := HB0.out.trans (hb1.mono HB0.out.size)
    have HP1 : Hid (w1.heap[w.heap.size]? = some (.cells #[.bool o, .string d] 25)) := get_below hb1 HP0.out (size_of_get HP0.out)
    have HR1 : Hid (w1.heap[w.heap.size + 1]? = some (.cells #[.bool false, .string ⟨#[]⟩] 25)) := get_below hb1 HR0.out (size_of_get HR0.out)
    have hz1 : w.heap.size + 1 < w1.heap.size := size_of_get HR1.out
    clear hb1
    obtain ⟨r0, r1⟩ := cells2_of HR1.out
    have fr : ∀ j, w1.frozen? ⟨w.heap.size + 1, j, none⟩ = false := fun j => frozen_get HR1.out
    go_wp2_with fail
    refine bodyPost_ret (v := .tuple #[.agg #[.bool false, .string ⟨#[]⟩], .string ⟨#[]⟩]) (results_row_tmp Tryd.results17 _ _ (w.heap.size + 1) 25 #[.bool false, .string ⟨#[]⟩] (0, 0) _ rfl ?_ Tryd.underlying25 rfl cellsJoin _ rfl) rfl ⟨by rw [HX.out]; rfl, ?_⟩
    · exact get_set (get_set HR1.out rfl) rfl
    · exact belowS (belowS HB1.out (by omega)) (by omega)
  have hd6 : d.size ≤ 106 := jnOk_size hj.symm
  have HJ : Hid (jnOk o d = true) := hj.symm
  clear hj
  by_cases hl2 : p.size < 2
  · have HX : Hid (shV o d p via = (o, d, ⟨#[]⟩)) := by show _ = _; unfold shV; rw [if_pos HJ.out, if_neg (fun h => by omega)]
    have hl : (p.size : Int) < 2 := by omega
    clear hl2
    go_enter Tryd.func17, Tryd.ntmps17
    go_wp2_with fail
    refine Calls.mono (HL.out _) ?_
    rintro e w1 ⟨rfl, hb1⟩
    have HB1 : Hid (Below w.heap.size w w1) := HB0.out.trans (hb1.mono HB0.out.size)
    have HP1 : Hid (w1.heap[w.heap.size]? = some (.cells #[.bool o, .string d] 25)) := get_below hb1 HP0.out (size_of_get HP0.out)
    have HR1 : Hid (w1.heap[w.heap.size + 1]? = some (.cells #[.bool false, .string ⟨#[]⟩] 25)) := get_below hb1 HR0.out (size_of_get HR0.out)
    have hz1 : w.heap.size + 1 < w1.heap.size := size_of_get HR1.out
    clear hb1
    obtain ⟨r0, r1⟩ := cells2_of HR1.out
    have fr : ∀ j, w1.frozen? ⟨w.heap.size + 1, j, none⟩ = false := fun j => frozen_get HR1.out
    obtain ⟨k0, k1⟩ := cells2_of HP1.out
    go_wp2_with fail
    refine bodyPost_ret (v := .tuple #[.agg #[.bool o, .string d], .string ⟨#[]⟩]) (results_row_tmp Tryd.results17 _ _ (w.heap.size + 1) 25 #[.bool o, .string d] (0, 0) _ rfl ?_ Tryd.underlying25 rfl cellsJoin _ rfl) rfl ⟨by rw [HX.out]; rfl, ?_⟩
    · exact get_set (get_set HR1.out rfl) rfl
    · exact belowS (belowS HB1.out (by omega)) (by omega)
  have hm2 : ¬ (p.size : Int) < 2 := by omega
  have hd2 : decide ((p.size : Int) < 2) = false := by simp; omega
  by_cases hl3 : 21 < p.size
  · have HX : Hid (shV o d p via = (o, d, ⟨#[]⟩)) := by show _ = _; unfold shV; rw [if_pos HJ.out, if_neg (fun h => by omega)]
    have hl : (21 : Int) < (p.size : Int) := by omega
    clear hl2 hl3
    go_enter Tryd.func17, Tryd.ntmps17
    go_wp2_with fail
    refine Calls.mono (HL.out _) ?_
    rintro e w1 ⟨rfl, hb1⟩
    have HB1 : Hid (Below w.heap.size w w1) := HB0.out.trans (hb1.mono HB0.out.size)
    have HP1 : Hid (w1.heap[w.heap.size]? = some (.cells #[.bool o, .string d] 25)) := get_below hb1 HP0.out (size_of_get HP0.out)
    have HR1 : Hid (w1.heap[w.heap.size + 1]? = some (.cells #[.bool false, .string ⟨#[]⟩] 25)) := get_below hb1 HR0.out (size_of_get HR0.out)
    have hz1 : w.heap.size + 1 < w1.heap.size := size_of_get HR1.out
    clear hb1
    obtain ⟨r0, r1⟩ := cells2_of HR1.out
    have fr : ∀ j, w1.frozen? ⟨w.heap.size + 1, j, none⟩ = false := fun j => frozen_get HR1.out
    obtain ⟨k0, k1⟩ := cells2_of HP1.out
    go_wp2_with fail
    refine bodyPost_ret (v := .tuple #[.agg #[.bool o, .string d], .string ⟨#[]⟩]) (results_row_tmp Tryd.results17 _ _ (w.heap.size + 1) 25 #[.bool o, .string d] (0, 0) _ rfl ?_ Tryd.underlying25 rfl cellsJoin _ rfl) rfl ⟨by rw [HX.out]; rfl, ?_⟩
    · exact get_set (get_set HR1.out rfl) rfl
    · exact belowS (belowS HB1.out (by omega)) (by omega)
  have hm3 : ¬ (21 : Int) < (p.size : Int) := by omega
  have hd3 : decide ((21 : Int) < (p.size : Int)) = false := by simp; omega
  obtain ⟨b0, hb0⟩ : ∃ b, b = byteAt p 0 := ⟨_, rfl⟩
  have hlt : b0 < 256 := by rw [hb0]; exact byteAt_lt p 0
  have hx0 : ∀ h : 0 < p.size, (p[0]'h).toNat = b0 := fun h => by rw [hb0]; exact byteAt_eq p 0 h
  have hpi : (0 : Int) < (p.size : Int) := by omega
  by_cases hv : ((b0 % 64 : Nat) : Int) = via
  · have hv2 : ((b0 : Int) % 64 != via) = false := by simp; omega
    have hp1 : (1 : Int) ≤ (p.size : Int) := by omega
    have HX0 : Hid (shV o d p via = shR o d (b0 / 64) (p.extract 1 p.size)) := by show _ = _; unfold shV; rw [if_pos HJ.out, ← hb0, if_pos ⟨by omega, by omega, hv⟩]
    clear hb0 hv
    go_enter Tryd.func17, Tryd.ntmps17
    go_wp2_with fail
    refine Calls.mono (HL.out _) ?_
    rintro e w1 ⟨rfl, hb1⟩
    have HB1 : Hid (Below w.heap.size w w1) := HB0.out.trans (hb1.mono HB0.out.size)
    have HP1 : Hid (w1.heap[w.heap.size]? = some (.cells #[.bool o, .string d] 25)) := get_below hb1 HP0.out (size_of_get HP0.out)
    have HR1 : Hid (w1.heap[w.heap.size + 1]? = some (.cells #[.bool false, .string ⟨#[]⟩] 25)) := get_below hb1 HR0.out (size_of_get HR0.out)
    have hz1 : w.heap.size + 1 < w1.heap.size := size_of_get HR1.out
    clear hb1
    obtain ⟨r0, r1⟩ := cells2_of HR1.out
    have fr : ∀ j, w1.frozen? ⟨w.heap.size + 1, j, none⟩ = false := fun j => frozen_get HR1.out
    obtain ⟨k0, k1⟩ := cells2_of HP1.out
    go_wp2_with fail
    refine (newJoiner_any o d _ (by omega)).mono ?_
    rintro e w2 ⟨b, hb, rfl, hj2, hb2⟩
    have HJ2 : Hid (Jr w2 b o d) := hj2
    have HB2 : Hid (Below w.heap.size w w2) := HB1.out.trans (hb2.mono HB1.out.size)
    have HR2 : Hid (w2.heap[w.heap.size + 1]? = some (.cells #[.bool false, .string ⟨#[]⟩] 25)) := get_below hb2 HR1.out (size_of_get HR1.out)
    clear hj2 hb2 r0 r1 fr k0 k1
    have h64 := bit64 b0 hlt
    have h128 := bit128 b0 hlt
    obtain ⟨fl, hfl⟩ : ∃ fl, fl = b0 / 64 := ⟨_, rfl⟩
    have hf : fl = 0 ∨ fl = 1 ∨ fl = 2 ∨ fl = 3 := by omega
    rw [← hfl] at h64 h128 HX0
    clear hfl
    have hs1 : (p.extract 1 p.size).size ≤ 1048576 := by simp; omega
    rcases hf with rfl | rfl | rfl | rfl
    · replace h64 : (bits BinOp.and IntKind.u8 (b0 : Int) 64 != 0) = false := h64
      replace h128 : (bits BinOp.and IntKind.u8 (b0 : Int) 128 != 0) = false := h128
      go_wp2_with fail
      by_cases ho : o = true ∧ d.size + (p.extract 1 p.size).size ≤ 106
      · obtain ⟨ho, hadd⟩ := ho
        have HX : Hid (shV o d p via = (true, d ++ (p.extract 1 p.size), ⟨#[]⟩)) := by
          show _ = _
          rw [HX0.out]; unfold shR; rw [if_pos ⟨by first | rfl | exact ho, hadd⟩]; rfl
        subst ho
        refine (addJ_yes b d (p.extract 1 p.size) _ HJ2.out (by first | exact hd6 | decide) hs1 hadd).mono ?_
        rintro e w3 ⟨rfl, hjj, hbb⟩
        have HB3 : Hid (Below w.heap.size w w3) := HB2.out.trans (hbb.mono (by omega))
        have HR3 : Hid (w3.heap[w.heap.size + 1]? = some (.cells #[.bool false, .string ⟨#[]⟩] 25)) := get_below hbb HR2.out (by omega)
        have HJ3 : Hid _ := hjj
        clear hjj hbb
        go_wp2_with fail
        have hzk : w.heap.size + 1 < w3.heap.size := size_of_get HR3.out
        refine (joinJ b true (d ++ (p.extract 1 p.size)) _ HJ3.out).mono ?_
        rintro e w4 ⟨rfl, hbb⟩
        have HB4 : Hid (Below w.heap.size w w4) := HB3.out.trans (hbb.mono HB3.out.size)
        have HR4 : Hid (w4.heap[w.heap.size + 1]? = some (.cells #[.bool false, .string ⟨#[]⟩] 25)) := get_below hbb HR3.out hzk
        clear hbb
        obtain ⟨r0, r1⟩ := cells2_of HR4.out
        have fr : ∀ j, w4.frozen? ⟨w.heap.size + 1, j, none⟩ = false := fun j => frozen_get HR4.out
        go_wp2_with fail
        refine bodyPost_ret (v := .tuple #[.agg #[.bool true, .string (d ++ (p.extract 1 p.size))], .string ⟨#[]⟩]) (results_row_tmp Tryd.results17 _ _ (w.heap.size + 1) 25 #[.bool true, .string (d ++ (p.extract 1 p.size))] (0, 0) _ rfl ?_ Tryd.underlying25 rfl cellsJoin _ rfl) rfl ⟨by rw [HX.out]; rfl, ?_⟩
        · exact get_set (get_set HR4.out rfl) rfl
        · exact belowS (belowS HB4.out (by omega)) (by omega)
      · have hno : ¬ (shO o 0 = true ∧ (shT d 0).size + (p.extract 1 p.size).size ≤ 106) := fun h => ho ⟨h.1, h.2⟩
        have hadd : o = false ∨ (o = true ∧ 106 < d.size + (p.extract 1 p.size).size) := by
          cases o
          · exact .inl rfl
          · exact .inr ⟨rfl, Nat.lt_of_not_le fun h => ho ⟨rfl, h⟩⟩
        have HX : Hid (shV o d p via = (false, ⟨#[]⟩, ⟨#[]⟩)) := by
          show _ = _
          rw [HX0.out]; unfold shR; rw [if_neg hno]
        clear ho
        refine (addJ_no b o d (p.extract 1 p.size) _ HJ2.out (by first | exact hd6 | decide) hs1 hadd).mono ?_
        rintro e w3 ⟨rfl, hjj, hbb⟩
        have HB3 : Hid (Below w.heap.size w w3) := HB2.out.trans (hbb.mono (by omega))
        have HR3 : Hid (w3.heap[w.heap.size + 1]? = some (.cells #[.bool false, .string ⟨#[]⟩] 25)) := get_below hbb HR2.out (by omega)
        have HJ3 : Hid _ := hjj
        clear hjj hbb
        go_wp2_with fail
        have hzk : w.heap.size + 1 < w3.heap.size := size_of_get HR3.out
        refine (joinJ b false ⟨#[]⟩ _ HJ3.out).mono ?_
        rintro e w4 ⟨rfl, hbb⟩
        have HB4 : Hid (Below w.heap.size w w4) := HB3.out.trans (hbb.mono HB3.out.size)
        have HR4 : Hid (w4.heap[w.heap.size + 1]? = some (.cells #[.bool false, .string ⟨#[]⟩] 25)) := get_below hbb HR3.out hzk
        clear hbb
        obtain ⟨r0, r1⟩ := cells2_of HR4.out
        have fr : ∀ j, w4.frozen? ⟨w.heap.size + 1, j, none⟩ = false := fun j => frozen_get HR4.out
        go_wp2_with fail
        refine bodyPost_ret (v := .tuple #[.agg #[.bool false, .string ⟨#[]⟩], .string ⟨#[]⟩]) (results_row_tmp Tryd.results17 _ _ (w.heap.size + 1) 25 #[.bool false, .string ⟨#[]⟩] (0, 0) _ rfl ?_ Tryd.underlying25 rfl cellsJoin _ rfl) rfl ⟨by rw [HX.out]; rfl, ?_⟩
        · exact get_set (get_set HR4.out rfl) rfl
        · exact belowS (belowS HB4.out (by omega)) (by omega)
    · replace h64 : (bits BinOp.and IntKind.u8 (b0 : Int) 64 != 0) = true := h64
      replace h128 : (bits BinOp.and IntKind.u8 (b0 : Int) 128 != 0) = false := h128
      go_wp2_with fail
      refine (beginJ b o d _ HJ2.out).mono ?_
      rintro e w3 ⟨rfl, hjj, hbb⟩
      have HB3 : Hid (Below w.heap.size w w3) := HB2.out.trans (hbb.mono (by omega))
      have HR3 : Hid (w3.heap[w.heap.size + 1]? = some (.cells #[.bool false, .string ⟨#[]⟩] 25)) := get_below hbb HR2.out (by omega)
      have HJ3 : Hid _ := hjj
      clear hjj hbb
      go_wp2_with fail
      by_cases hadd : (⟨#[]⟩ : ByteArray).size + (p.extract 1 p.size).size ≤ 106
      · have HX : Hid (shV o d p via = (true, (⟨#[]⟩ : ByteArray) ++ (p.extract 1 p.size), ⟨#[]⟩)) := by
          show _ = _
          rw [HX0.out]; unfold shR; rw [if_pos ⟨by first | rfl | exact ho, hadd⟩]; rfl
        refine (addJ_yes b (⟨#[]⟩ : ByteArray) (p.extract 1 p.size) _ HJ3.out (by first | exact hd6 | decide) hs1 hadd).mono ?_
        rintro e w4 ⟨rfl, hjj, hbb⟩
        have HB4 : Hid (Below w.heap.size w w4) := HB3.out.trans (hbb.mono (by omega))
        have HR4 : Hid (w4.heap[w.heap.size + 1]? = some (.cells #[.bool false, .string ⟨#[]⟩] 25)) := get_below hbb HR3.out (by omega)
        have HJ4 : Hid _ := hjj
        clear hjj hbb
        go_wp2_with fail
        have hzk : w.heap.size + 1 < w4.heap.size := size_of_get HR4.out
        refine (joinJ b true ((⟨#[]⟩ : ByteArray) ++ (p.extract 1 p.size)) _ HJ4.out).mono ?_
        rintro e w5 ⟨rfl, hbb⟩
        have HB5 : Hid (Below w.heap.size w w5) := HB4.out.trans (hbb.mono HB4.out.size)
        have HR5 : Hid (w5.heap[w.heap.size + 1]? = some (.cells #[.bool false, .string ⟨#[]⟩] 25)) := get_below hbb HR4.out hzk
        clear hbb
        obtain ⟨r0, r1⟩ := cells2_of HR5.out
        have fr : ∀ j, w5.frozen? ⟨w.heap.size + 1, j, none⟩ = false := fun j => frozen_get HR5.out
        go_wp2_with fail
        refine bodyPost_ret (v := .tuple #[.agg #[.bool true, .string ((⟨#[]⟩ : ByteArray) ++ (p.extract 1 p.size))], .string ⟨#[]⟩]) (results_row_tmp Tryd.results17 _ _ (w.heap.size + 1) 25 #[.bool true, .string ((⟨#[]⟩ : ByteArray) ++ (p.extract 1 p.size))] (0, 0) _ rfl ?_ Tryd.underlying25 rfl cellsJoin _ rfl) rfl ⟨by rw [HX.out]; rfl, ?_⟩
        · exact get_set (get_set HR5.out rfl) rfl
        · exact belowS (belowS HB5.out (by omega)) (by omega)
      · have hno : ¬ (shO o 1 = true ∧ (shT d 1).size + (p.extract 1 p.size).size ≤ 106) := fun h => hadd h.2
        replace hadd : true = false ∨ (true = true ∧ 106 < (⟨#[]⟩ : ByteArray).size + (p.extract 1 p.size).size) := .inr ⟨rfl, by omega⟩
        have HX : Hid (shV o d p via = (false, ⟨#[]⟩, ⟨#[]⟩)) := by
          show _ = _
          rw [HX0.out]; unfold shR; rw [if_neg hno]
        refine (addJ_no b true (⟨#[]⟩ : ByteArray) (p.extract 1 p.size) _ HJ3.out (by first | exact hd6 | decide) hs1 hadd).mono ?_
        rintro e w4 ⟨rfl, hjj, hbb⟩
        have HB4 : Hid (Below w.heap.size w w4) := HB3.out.trans (hbb.mono (by omega))
        have HR4 : Hid (w4.heap[w.heap.size + 1]? = some (.cells #[.bool false, .string ⟨#[]⟩] 25)) := get_below hbb HR3.out (by omega)
        have HJ4 : Hid _ := hjj
        clear hjj hbb
        go_wp2_with fail
        have hzk : w.heap.size + 1 < w4.heap.size := size_of_get HR4.out
        refine (joinJ b false ⟨#[]⟩ _ HJ4.out).mono ?_
        rintro e w5 ⟨rfl, hbb⟩
        have HB5 : Hid (Below w.heap.size w w5) := HB4.out.trans (hbb.mono HB4.out.size)
        have HR5 : Hid (w5.heap[w.heap.size + 1]? = some (.cells #[.bool false, .string ⟨#[]⟩] 25)) := get_below hbb HR4.out hzk
        clear hbb
        obtain ⟨r0, r1⟩ := cells2_of HR5.out
        have fr : ∀ j, w5.frozen? ⟨w.heap.size + 1, j, none⟩ = false := fun j => frozen_get HR5.out
        go_wp2_with fail
        refine bodyPost_ret (v := .tuple #[.agg #[.bool false, .string ⟨#[]⟩], .string ⟨#[]⟩]) (results_row_tmp Tryd.results17 _ _ (w.heap.size + 1) 25 #[.bool false, .string ⟨#[]⟩] (0, 0) _ rfl ?_ Tryd.underlying25 rfl cellsJoin _ rfl) rfl ⟨by rw [HX.out]; rfl, ?_⟩
        · exact get_set (get_set HR5.out rfl) rfl
        · exact belowS (belowS HB5.out (by omega)) (by omega)
    · replace h64 : (bits BinOp.and IntKind.u8 (b0 : Int) 64 != 0) = false := h64
      replace h128 : (bits BinOp.and IntKind.u8 (b0 : Int) 128 != 0) = true := h128
      go_wp2_with fail
      by_cases ho : o = true ∧ d.size + (p.extract 1 p.size).size ≤ 106
      · obtain ⟨ho, hadd⟩ := ho
        have HX : Hid (shV o d p via = (false, ⟨#[]⟩, d ++ (p.extract 1 p.size))) := by
          show _ = _
          rw [HX0.out]; unfold shR; rw [if_pos ⟨by first | rfl | exact ho, hadd⟩]; rfl
        subst ho
        refine (addJ_yes b d (p.extract 1 p.size) _ HJ2.out (by first | exact hd6 | decide) hs1 hadd).mono ?_
        rintro e w3 ⟨rfl, hjj, hbb⟩
        have HB3 : Hid (Below w.heap.size w w3) := HB2.out.trans (hbb.mono (by omega))
        have HR3 : Hid (w3.heap[w.heap.size + 1]? = some (.cells #[.bool false, .string ⟨#[]⟩] 25)) := get_below hbb HR2.out (by omega)
        have HJ3 : Hid _ := hjj
        clear hjj hbb
        go_wp2_with fail
        refine (stringJ b true (d ++ (p.extract 1 p.size)) _ HJ3.out).mono ?_
        rintro e w4 ⟨rfl, n, hn⟩
        have hbb : Below b w3 w4 := by rw [hn]; exact belowN (Below.refl _ _) n
        have hjj : Jr w4 b true (d ++ (p.extract 1 p.size)) := by rw [hn]; exact HJ3.out
        clear hn
        have HB4 : Hid (Below w.heap.size w w4) := HB3.out.trans (hbb.mono (by omega))
        have HR4 : Hid (w4.heap[w.heap.size + 1]? = some (.cells #[.bool false, .string ⟨#[]⟩] 25)) := get_below hbb HR3.out (by omega)
        have HJ4 : Hid _ := hjj
        clear hjj hbb
        go_wp2_with fail
        refine (dropJ b true (d ++ (p.extract 1 p.size)) _ HJ4.out).mono ?_
        rintro e w5 ⟨rfl, hjj, hbb⟩
        have HB5 : Hid (Below w.heap.size w w5) := HB4.out.trans (hbb.mono (by omega))
        have HR5 : Hid (w5.heap[w.heap.size + 1]? = some (.cells #[.bool false, .string ⟨#[]⟩] 25)) := get_below hbb HR4.out (by omega)
        have HJ5 : Hid _ := hjj
        clear hjj hbb
        go_wp2_with fail
        have hzk : w.heap.size + 1 < w5.heap.size := size_of_get HR5.out
        refine (joinJ b false ⟨#[]⟩ _ HJ5.out).mono ?_
        rintro e w6 ⟨rfl, hbb⟩
        have HB6 : Hid (Below w.heap.size w w6) := HB5.out.trans (hbb.mono HB5.out.size)
        have HR6 : Hid (w6.heap[w.heap.size + 1]? = some (.cells #[.bool false, .string ⟨#[]⟩] 25)) := get_below hbb HR5.out hzk
        clear hbb
        obtain ⟨r0, r1⟩ := cells2_of HR6.out
        have fr : ∀ j, w6.frozen? ⟨w.heap.size + 1, j, none⟩ = false := fun j => frozen_get HR6.out
        go_wp2_with fail
        refine bodyPost_ret (v := .tuple #[.agg #[.bool false, .string ⟨#[]⟩], .string (d ++ (p.extract 1 p.size))]) (results_row_tmp Tryd.results17 _ _ (w.heap.size + 1) 25 #[.bool false, .string ⟨#[]⟩] (0, 0) _ rfl ?_ Tryd.underlying25 rfl cellsJoin _ rfl) rfl ⟨by rw [HX.out]; rfl, ?_⟩
        · exact get_set (get_set HR6.out rfl) rfl
        · exact belowS (belowS HB6.out (by omega)) (by omega)
      · have hno : ¬ (shO o 2 = true ∧ (shT d 2).size + (p.extract 1 p.size).size ≤ 106) := fun h => ho ⟨h.1, h.2⟩
        have hadd : o = false ∨ (o = true ∧ 106 < d.size + (p.extract 1 p.size).size) := by
          cases o
          · exact .inl rfl
          · exact .inr ⟨rfl, Nat.lt_of_not_le fun h => ho ⟨rfl, h⟩⟩
        have HX : Hid (shV o d p via = (false, ⟨#[]⟩, ⟨#[]⟩)) := by
          show _ = _
          rw [HX0.out]; unfold shR; rw [if_neg hno]
        clear ho
        refine (addJ_no b o d (p.extract 1 p.size) _ HJ2.out (by first | exact hd6 | decide) hs1 hadd).mono ?_
        rintro e w3 ⟨rfl, hjj, hbb⟩
        have HB3 : Hid (Below w.heap.size w w3) := HB2.out.trans (hbb.mono (by omega))
        have HR3 : Hid (w3.heap[w.heap.size + 1]? = some (.cells #[.bool false, .string ⟨#[]⟩] 25)) := get_below hbb HR2.out (by omega)
        have HJ3 : Hid _ := hjj
        clear hjj hbb
        go_wp2_with fail
        refine (stringJ b false ⟨#[]⟩ _ HJ3.out).mono ?_
        rintro e w4 ⟨rfl, n, hn⟩
        have hbb : Below b w3 w4 := by rw [hn]; exact belowN (Below.refl _ _) n
        have hjj : Jr w4 b false ⟨#[]⟩ := by rw [hn]; exact HJ3.out
        clear hn
        have HB4 : Hid (Below w.heap.size w w4) := HB3.out.trans (hbb.mono (by omega))
        have HR4 : Hid (w4.heap[w.heap.size + 1]? = some (.cells #[.bool false, .string ⟨#[]⟩] 25)) := get_below hbb HR3.out (by omega)
        have HJ4 : Hid _ := hjj
        clear hjj hbb
        go_wp2_with fail
        refine (dropJ b false ⟨#[]⟩ _ HJ4.out).mono ?_
        rintro e w5 ⟨rfl, hjj, hbb⟩
        have HB5 : Hid (Below w.heap.size w w5) := HB4.out.trans (hbb.mono (by omega))
        have HR5 : Hid (w5.heap[w.heap.size + 1]? = some (.cells #[.bool false, .string ⟨#[]⟩] 25)) := get_below hbb HR4.out (by omega)
        have HJ5 : Hid _ := hjj
        clear hjj hbb
        go_wp2_with fail
        have hzk : w.heap.size + 1 < w5.heap.size := size_of_get HR5.out
        refine (joinJ b false ⟨#[]⟩ _ HJ5.out).mono ?_
        rintro e w6 ⟨rfl, hbb⟩
        have HB6 : Hid (Below w.heap.size w w6) := HB5.out.trans (hbb.mono HB5.out.size)
        have HR6 : Hid (w6.heap[w.heap.size + 1]? = some (.cells #[.bool false, .string ⟨#[]⟩] 25)) := get_below hbb HR5.out hzk
        clear hbb
        obtain ⟨r0, r1⟩ := cells2_of HR6.out
        have fr : ∀ j, w6.frozen? ⟨w.heap.size + 1, j, none⟩ = false := fun j => frozen_get HR6.out
        go_wp2_with fail
        refine bodyPost_ret (v := .tuple #[.agg #[.bool false, .string ⟨#[]⟩], .string ⟨#[]⟩]) (results_row_tmp Tryd.results17 _ _ (w.heap.size + 1) 25 #[.bool false, .string ⟨#[]⟩] (0, 0) _ rfl ?_ Tryd.underlying25 rfl cellsJoin _ rfl) rfl ⟨by rw [HX.out]; rfl, ?_⟩
        · exact get_set (get_set HR6.out rfl) rfl
        · exact belowS (belowS HB6.out (by omega)) (by omega)
    · replace h64 : (bits BinOp.and IntKind.u8 (b0 : Int) 64 != 0) = true := h64
      replace h128 : (bits BinOp.and IntKind.u8 (b0 : Int) 128 != 0) = true := h128
      go_wp2_with fail
      refine (beginJ b o d _ HJ2.out).mono ?_
      rintro e w3 ⟨rfl, hjj, hbb⟩
      have HB3 : Hid (Below w.heap.size w w3) := HB2.out.trans (hbb.mono (by omega))
      have HR3 : Hid (w3.heap[w.heap.size + 1]? = some (.cells #[.bool false, .string ⟨#[]⟩] 25)) := get_below hbb HR2.out (by omega)
      have HJ3 : Hid _ := hjj
      clear hjj hbb
      go_wp2_with fail
      by_cases hadd : (⟨#[]⟩ : ByteArray).size + (p.extract 1 p.size).size ≤ 106
      · have HX : Hid (shV o d p via = (false, ⟨#[]⟩, (⟨#[]⟩ : ByteArray) ++ (p.extract 1 p.size))) := by
          show _ = _
          rw [HX0.out]; unfold shR; rw [if_pos ⟨by first | rfl | exact ho, hadd⟩]; rfl
        refine (addJ_yes b (⟨#[]⟩ : ByteArray) (p.extract 1 p.size) _ HJ3.out (by first | exact hd6 | decide) hs1 hadd).mono ?_
        rintro e w4 ⟨rfl, hjj, hbb⟩
        have HB4 : Hid (Below w.heap.size w w4) := HB3.out.trans (hbb.mono (by omega))
        have HR4 : Hid (w4.heap[w.heap.size + 1]? = some (.cells #[.bool false, .string ⟨#[]⟩] 25)) := get_below hbb HR3.out (by omega)
        have HJ4 : Hid _ := hjj
        clear hjj hbb
        go_wp2_with fail
        refine (stringJ b true ((⟨#[]⟩ : ByteArray) ++ (p.extract 1 p.size)) _ HJ4.out).mono ?_
        rintro e w5 ⟨rfl, n, hn⟩
        have hbb : Below b w4 w5 := by rw [hn]; exact belowN (Below.refl _ _) n
        have hjj : Jr w5 b true ((⟨#[]⟩ : ByteArray) ++ (p.extract 1 p.size)) := by rw [hn]; exact HJ4.out
        clear hn
        have HB5 : Hid (Below w.heap.size w w5) := HB4.out.trans (hbb.mono (by omega))
        have HR5 : Hid (w5.heap[w.heap.size + 1]? = some (.cells #[.bool false, .string ⟨#[]⟩] 25)) := get_below hbb HR4.out (by omega)
        have HJ5 : Hid _ := hjj
        clear hjj hbb
        go_wp2_with fail
        refine (dropJ b true ((⟨#[]⟩ : ByteArray) ++ (p.extract 1 p.size)) _ HJ5.out).mono ?_
        rintro e w6 ⟨rfl, hjj, hbb⟩
        have HB6 : Hid (Below w.heap.size w w6) := HB5.out.trans (hbb.mono (by omega))
        have HR6 : Hid (w6.heap[w.heap.size + 1]? = some (.cells #[.bool false, .string ⟨#[]⟩] 25)) := get_below hbb HR5.out (by omega)
        have HJ6 : Hid _ := hjj
        clear hjj hbb
        go_wp2_with fail
        have hzk : w.heap.size + 1 < w6.heap.size := size_of_get HR6.out
        refine (joinJ b false ⟨#[]⟩ _ HJ6.out).mono ?_
        rintro e w7 ⟨rfl, hbb⟩
        have HB7 : Hid (Below w.heap.size w w7) := HB6.out.trans (hbb.mono HB6.out.size)
        have HR7 : Hid (w7.heap[w.heap.size + 1]? = some (.cells #[.bool false, .string ⟨#[]⟩] 25)) := get_below hbb HR6.out hzk
        clear hbb
        obtain ⟨r0, r1⟩ := cells2_of HR7.out
        have fr : ∀ j, w7.frozen? ⟨w.heap.size + 1, j, none⟩ = false := fun j => frozen_get HR7.out
        go_wp2_with fail
        refine bodyPost_ret (v := .tuple #[.agg #[.bool false, .string ⟨#[]⟩], .string ((⟨#[]⟩ : ByteArray) ++ (p.extract 1 p.size))]) (results_row_tmp Tryd.results17 _ _ (w.heap.size + 1) 25 #[.bool false, .string ⟨#[]⟩] (0, 0) _ rfl ?_ Tryd.underlying25 rfl cellsJoin _ rfl) rfl ⟨by rw [HX.out]; rfl, ?_⟩
        · exact get_set (get_set HR7.out rfl) rfl
        · exact belowS (belowS HB7.out (by omega)) (by omega)
      · have hno : ¬ (shO o 3 = true ∧ (shT d 3).size + (p.extract 1 p.size).size ≤ 106) := fun h => hadd h.2
        replace hadd : true = false ∨ (true = true ∧ 106 < (⟨#[]⟩ : ByteArray).size + (p.extract 1 p.size).size) := .inr ⟨rfl, by omega⟩
        have HX : Hid (shV o d p via = (false, ⟨#[]⟩, ⟨#[]⟩)) := by
          show _ = _
          rw [HX0.out]; unfold shR; rw [if_neg hno]
        refine (addJ_no b true (⟨#[]⟩ : ByteArray) (p.extract 1 p.size) _ HJ3.out (by first | exact hd6 | decide) hs1 hadd).mono ?_
        rintro e w4 ⟨rfl, hjj, hbb⟩
        have HB4 : Hid (Below w.heap.size w w4) := HB3.out.trans (hbb.mono (by omega))
        have HR4 : Hid (w4.heap[w.heap.size + 1]? = some (.cells #[.bool false, .string ⟨#[]⟩] 25)) := get_below hbb HR3.out (by omega)
        have HJ4 : Hid _ := hjj
        clear hjj hbb
        go_wp2_with fail
        refine (stringJ b false ⟨#[]⟩ _ HJ4.out).mono ?_
        rintro e w5 ⟨rfl, n, hn⟩
        have hbb : Below b w4 w5 := by rw [hn]; exact belowN (Below.refl _ _) n
        have hjj : Jr w5 b false ⟨#[]⟩ := by rw [hn]; exact HJ4.out
        clear hn
        have HB5 : Hid (Below w.heap.size w w5) := HB4.out.trans (hbb.mono (by omega))
        have HR5 : Hid (w5.heap[w.heap.size + 1]? = some (.cells #[.bool false, .string ⟨#[]⟩] 25)) := get_below hbb HR4.out (by omega)
        have HJ5 : Hid _ := hjj
        clear hjj hbb
        go_wp2_with fail
        refine (dropJ b false ⟨#[]⟩ _ HJ5.out).mono ?_
        rintro e w6 ⟨rfl, hjj, hbb⟩
        have HB6 : Hid (Below w.heap.size w w6) := HB5.out.trans (hbb.mono (by omega))
        have HR6 : Hid (w6.heap[w.heap.size + 1]? = some (.cells #[.bool false, .string ⟨#[]⟩] 25)) := get_below hbb HR5.out (by omega)
        have HJ6 : Hid _ := hjj
        clear hjj hbb
        go_wp2_with fail
        have hzk : w.heap.size + 1 < w6.heap.size := size_of_get HR6.out
        refine (joinJ b false ⟨#[]⟩ _ HJ6.out).mono ?_
        rintro e w7 ⟨rfl, hbb⟩
        have HB7 : Hid (Below w.heap.size w w7) := HB6.out.trans (hbb.mono HB6.out.size)
        have HR7 : Hid (w7.heap[w.heap.size + 1]? = some (.cells #[.bool false, .string ⟨#[]⟩] 25)) := get_below hbb HR6.out hzk
        clear hbb
        obtain ⟨r0, r1⟩ := cells2_of HR7.out
        have fr : ∀ j, w7.frozen? ⟨w.heap.size + 1, j, none⟩ = false := fun j => frozen_get HR7.out
        go_wp2_with fail
        refine bodyPost_ret (v := .tuple #[.agg #[.bool false, .string ⟨#[]⟩], .string ⟨#[]⟩]) (results_row_tmp Tryd.results17 _ _ (w.heap.size + 1) 25 #[.bool false, .string ⟨#[]⟩] (0, 0) _ rfl ?_ Tryd.underlying25 rfl cellsJoin _ rfl) rfl ⟨by rw [HX.out]; rfl, ?_⟩
        · exact get_set (get_set HR7.out rfl) rfl
        · exact belowS (belowS HB7.out (by omega)) (by omega)
  · have HX : Hid (shV o d p via = (o, d, ⟨#[]⟩)) := by show _ = _; unfold shV; rw [if_pos HJ.out, ← hb0, if_neg (fun h => hv h.2.2)]
    have hv2 : ((b0 : Int) % 64 != via) = true := by simp; omega
    clear hb0 hv
    go_enter Tryd.func17, Tryd.ntmps17
    go_wp2_with fail
    refine Calls.mono (HL.out _) ?_
    rintro e w1 ⟨rfl, hb1⟩
    have HB1 : Hid (Below w.heap.size w w1) := HB0.out.trans (hb1.mono HB0.out.size)
    have HP1 : Hid (w1.heap[w.heap.size]? = some (.cells #[.bool o, .string d] 25)) := get_below hb1 HP0.out (size_of_get HP0.out)
    have HR1 : Hid (w1.heap[w.heap.size + 1]? = some (.cells #[.bool false, .string ⟨#[]⟩] 25)) := get_below hb1 HR0.out (size_of_get HR0.out)
    have hz1 : w.heap.size + 1 < w1.heap.size := size_of_get HR1.out
    clear hb1
    obtain ⟨r0, r1⟩ := cells2_of HR1.out
    have fr : ∀ j, w1.frozen? ⟨w.heap.size + 1, j, none⟩ = false := fun j => frozen_get HR1.out
    obtain ⟨k0, k1⟩ := cells2_of HP1.out
    go_wp2_with fail
    refine bodyPost_ret (v := .tuple #[.agg #[.bool o, .string d], .string ⟨#[]⟩]) (results_row_tmp Tryd.results17 _ _ (w.heap.size + 1) 25 #[.bool o, .string d] (0, 0) _ rfl ?_ Tryd.underlying25 rfl cellsJoin _ rfl) rfl ⟨by rw [HX.out]; rfl, ?_⟩
    · exact get_set (get_set HR1.out rfl) rfl
    · exact belowS (belowS HB1.out (by omega)) (by omega)
end Go.Proofs.YtgejiiaocgacmaaDoor
