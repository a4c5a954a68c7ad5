/- impl.DownGet. -/
import Derived.Test.YtccpdadabndleaaDoorDgP
namespace Go.Proofs.YtccpdadabndleaaDoor
open Go.ChangeShapes Go.WideShapes Go.ChangeAt Go.RowKit
set_option linter.unusedVariables false
theorem cellsDg : (Tryd.prog.info? 54).map (·.size) = some 7 := by kernel_rfl
theorem gt1D (t : ByteArray) (a : Nat) : gt t a 1 = byteAt t a := by simp [gt]
set_option maxRecDepth 100000 in
set_option maxHeartbeats 1000000 in
theorem down_any (g : Nat) (t : ByteArray) (w : World) (ht : t.size ≤ maxLen) (he : Errs w) (hc : Cur w g t 0 true) :
    Calls Tryd.prog 90 #[.pointer (some ⟨g, 0, none⟩)] w fun e w' => ∃ (h al ow fs : Nat) (d f : ByteArray) (a : Int) (ok : Bool), h < 65536 ∧ fs < 65536 ∧ d.size ≤ maxLen ∧ f.size ≤ maxLen ∧ (ok = true → 38 ≤ t.size ∧ h = gt t 0 2 ∧ al = byteAt t 2 ∧ ow = byteAt t 3 ∧ fs = gt t 4 2 ∧ d = t.extract 6 34 ∧ f = t.extract 34 38) ∧ (38 ≤ t.size → ok = true) ∧ e = .returned (.agg #[.int .i64 ((h : Int) / 16), .int .i64 ((h : Int) % 16 / 2), .int .i64 (al : Nat), .int .i64 (ow : Nat), .int .i64 ((fs : Int) - 6144), .string d, .string f]) ∧ Only g w w' ∧ Cur w' g t a ok := by
  have hg0 := hc.lt
  have hm : t.size ≤ maxLen := ht
  unfold maxLen at hm
  have HM : Hid (t.size ≤ maxLen) := ht
  have HE : Hid (Errs (w.alloc (.cells #[.int .i64 0, .int .i64 0, .int .i64 0, .int .i64 0, .int .i64 0, .string ⟨#[]⟩, .string ⟨#[]⟩] 54))) := he.below ((Below.refl _ _).alloc (Nat.le_refl _) _)
  have HC : Hid (Cur (w.alloc (.cells #[.int .i64 0, .int .i64 0, .int .i64 0, .int .i64 0, .int .i64 0, .string ⟨#[]⟩, .string ⟨#[]⟩] 54)) g t 0 true) := hc.below ((Below.refl _ _).alloc (Nat.le_refl _) _)
  have RES : Hid ((w.alloc (.cells #[.int .i64 0, .int .i64 0, .int .i64 0, .int .i64 0, .int .i64 0, .string ⟨#[]⟩, .string ⟨#[]⟩] 54)).heap[w.heap.size]? = some (.cells #[.int .i64 0, .int .i64 0, .int .i64 0, .int .i64 0, .int .i64 0, .string ⟨#[]⟩, .string ⟨#[]⟩] 54)) := get_new rfl
  have HW : Hid (Only g w (w.alloc (.cells #[.int .i64 0, .int .i64 0, .int .i64 0, .int .i64 0, .int .i64 0, .string ⟨#[]⟩, .string ⟨#[]⟩] 54))) := (Only.refl _ _).alloc _
  clear hc he ht
  go_enter Tryd.func90, Tryd.ntmps90
  go_wp2_with fail
  refine (cnum_inv g t 0 true 0 2 _ HM.out HE.out (by decide) (by decide) (fun _ => rfl) (fun _ => rfl) HC.out).mono ?_
  rintro e w1 ⟨h, a1, b1, hs1, hv1, hp1, hy1, rfl, ho, hc⟩
  replace HE : Hid (Errs w1) := HE.out.only ho (by omega)
  replace HC : Hid (Cur w1 g t a1 b1) := hc
  replace RES : Hid (w1.heap[w.heap.size]? = some (.cells #[.int .i64 0, .int .i64 0, .int .i64 0, .int .i64 0, .int .i64 0, .string ⟨#[]⟩, .string ⟨#[]⟩] 54)) := getO2 ho RES.out (by omega)
  replace HW : Hid (Only g w w1) := HW.out.trans ho
  have HV1 : Hid _ := hv1
  have HP1 : Hid _ := hp1
  have HY1 : Hid _ := hy1
  clear ho hc hv1 hp1 hy1
  go_wp2_with fail
  refine (cnum_inv g t a1 b1 2 1 _ HM.out HE.out (by decide) (by decide) HP1.out (fun hle => HY1.out (by omega)) HC.out).mono ?_
  rintro e w2 ⟨al, a2, b2, hs2, hv2, hp2, hy2, rfl, ho, hc⟩
  replace HE : Hid (Errs w2) := HE.out.only ho (by omega)
  replace HC : Hid (Cur w2 g t a2 b2) := hc
  replace RES : Hid (w2.heap[w.heap.size]? = some (.cells #[.int .i64 0, .int .i64 0, .int .i64 0, .int .i64 0, .int .i64 0, .string ⟨#[]⟩, .string ⟨#[]⟩] 54)) := getO2 ho RES.out (by omega)
  replace HW : Hid (Only g w w2) := HW.out.trans ho
  have HV2 : Hid _ := hv2
  have HP2 : Hid _ := hp2
  have HY2 : Hid _ := hy2
  clear ho hc hv2 hp2 hy2
  go_wp2_with fail
  refine (cnum_inv g t a2 b2 3 1 _ HM.out HE.out (by decide) (by decide) HP2.out (fun hle => HY2.out (by omega)) HC.out).mono ?_
  rintro e w3 ⟨ow, a3, b3, hs3, hv3, hp3, hy3, rfl, ho, hc⟩
  replace HE : Hid (Errs w3) := HE.out.only ho (by omega)
  replace HC : Hid (Cur w3 g t a3 b3) := hc
  replace RES : Hid (w3.heap[w.heap.size]? = some (.cells #[.int .i64 0, .int .i64 0, .int .i64 0, .int .i64 0, .int .i64 0, .string ⟨#[]⟩, .string ⟨#[]⟩] 54)) := getO2 ho RES.out (by omega)
  replace HW : Hid (Only g w w3) := HW.out.trans ho
  have HV3 : Hid _ := hv3
  have HP3 : Hid _ := hp3
  have HY3 : Hid _ := hy3
  clear ho hc hv3 hp3 hy3
  go_wp2_with fail
  refine (cnum_inv g t a3 b3 4 2 _ HM.out HE.out (by decide) (by decide) HP3.out (fun hle => HY3.out (by omega)) HC.out).mono ?_
  rintro e w4 ⟨fs, a4, b4, hs4, hv4, hp4, hy4, rfl, ho, hc⟩
  replace HE : Hid (Errs w4) := HE.out.only ho (by omega)
  replace HC : Hid (Cur w4 g t a4 b4) := hc
  replace RES : Hid (w4.heap[w.heap.size]? = some (.cells #[.int .i64 0, .int .i64 0, .int .i64 0, .int .i64 0, .int .i64 0, .string ⟨#[]⟩, .string ⟨#[]⟩] 54)) := getO2 ho RES.out (by omega)
  replace HW : Hid (Only g w w4) := HW.out.trans ho
  have HV4 : Hid _ := hv4
  have HP4 : Hid _ := hp4
  have HY4 : Hid _ := hy4
  clear ho hc hv4 hp4 hy4
  go_wp2_with fail
  refine (cbytes_inv g t a4 b4 6 28 _ HM.out HE.out HP4.out (fun hle => HY4.out (by omega)) HC.out).mono ?_
  rintro e w5 ⟨d, a5, b5, hs5, hv5, hp5, hy5, rfl, ho, hc⟩
  replace HE : Hid (Errs w5) := HE.out.only ho (by omega)
  replace HC : Hid (Cur w5 g t a5 b5) := hc
  replace RES : Hid (w5.heap[w.heap.size]? = some (.cells #[.int .i64 0, .int .i64 0, .int .i64 0, .int .i64 0, .int .i64 0, .string ⟨#[]⟩, .string ⟨#[]⟩] 54)) := getO2 ho RES.out (by omega)
  replace HW : Hid (Only g w w5) := HW.out.trans ho
  have HV5 : Hid _ := hv5
  have HP5 : Hid _ := hp5
  have HY5 : Hid _ := hy5
  clear ho hc hv5 hp5 hy5
  go_wp2_with fail
  refine (cbytes_inv g t a5 b5 34 4 _ HM.out HE.out HP5.out (fun hle => HY5.out (by omega)) HC.out).mono ?_
  rintro e w6 ⟨f, a6, b6, hs6, hv6, hp6, hy6, rfl, ho, hc⟩
  replace HE : Hid (Errs w6) := HE.out.only ho (by omega)
  replace HC : Hid (Cur w6 g t a6 b6) := hc
  replace RES : Hid (w6.heap[w.heap.size]? = some (.cells #[.int .i64 0, .int .i64 0, .int .i64 0, .int .i64 0, .int .i64 0, .string ⟨#[]⟩, .string ⟨#[]⟩] 54)) := getO2 ho RES.out (by omega)
  replace HW : Hid (Only g w w6) := HW.out.trans ho
  have HV6 : Hid _ := hv6
  have HP6 : Hid _ := hp6
  have HY6 : Hid _ := hy6
  clear ho hc hv6 hp6 hy6
  obtain ⟨r0, r1, r2, r3, r4, r5, r6⟩ := cells7_of RES.out
  have fz : ∀ j, w6.frozen? ⟨w.heap.size, j, none⟩ = false := fun j => frozen_get RES.out
  have hgl : g < w.heap.size := hg0.2
  have HS : Hid (h < 65536 ∧ fs < 65536 ∧ d.size ≤ maxLen ∧ f.size ≤ maxLen) := ⟨hs1, hs4, hs5, hs6⟩
  have HQ : Hid ((b6 = true → 38 ≤ t.size ∧ h = gt t 0 2 ∧ al = byteAt t 2 ∧ ow = byteAt t 3 ∧ fs = gt t 4 2 ∧ d = t.extract 6 34 ∧ f = t.extract 34 38) ∧ (38 ≤ t.size → b6 = true)) := by
    refine ⟨fun hb => ?_, fun hle => HY6.out (by omega)⟩
    obtain ⟨c5, q6, z6⟩ := HV6.out hb
    obtain ⟨c4, q5, _⟩ := HV5.out c5
    obtain ⟨c3, q4, _⟩ := HV4.out c4
    obtain ⟨c2, q3, _⟩ := HV3.out c3
    obtain ⟨c1, q2, _⟩ := HV2.out c2
    obtain ⟨_, q1, _⟩ := HV1.out c1
    refine ⟨by omega, q1, ?_, ?_, q4, q5, q6⟩
    · rw [q2, gt1D]
    · rw [q3, gt1D]
  clear HV1 HV2 HV3 HV4 HV5 HV6 HP1 HP2 HP3 HP4 HP5 HP6 HY1 HY2 HY3 HY4 HY5 HY6 hs5 hs6
  go_wp2_with fail
  have HO : Hid (∀ (W : World) (j : Nat) (u : Value), Only g w W → Only g w (W.setCell ⟨w.heap.size, j, none⟩ u)) := fun W j u h => ⟨h.os, h.tape, h.output, Nat.le_trans h.size (by simp [World.setCell]), fun k hk hn => (Below.heap_setCell _ _ _ _ (by simp; omega)).trans (h.block k hk hn)⟩
  have HCU : Hid (∀ (W : World) (j : Nat) (u : Value), Cur W g t a6 b6 → Cur (W.setCell ⟨w.heap.size, j, none⟩ u) g t a6 b6) := fun W j u ⟨c2, c0, c1, F, cf1, cf2, cg⟩ => ⟨c2, c0, c1, F, cf1, cf2, get_set_ne cg (by omega)⟩
  refine bodyPost_ret (v := .agg #[.int .i64 ((h : Int) / 16), .int .i64 ((h : Int) % 16 / 2), .int .i64 (al : Nat), .int .i64 (ow : Nat), .int .i64 ((fs : Int) - 6144), .string d, .string f]) (results_cell_row Tryd.results90 _ _ w.heap.size 54 #[.int .i64 ((h : Int) / 16), .int .i64 ((h : Int) % 16 / 2), .int .i64 (al : Nat), .int .i64 (ow : Nat), .int .i64 ((fs : Int) - 6144), .string d, .string f] (0, 0) _ rfl ?_ Tryd.underlying54 rfl cellsDg) rfl ⟨h, al, ow, fs, d, f, a6, b6, HS.out.1, HS.out.2.1, HS.out.2.2.1, HS.out.2.2.2, HQ.out.1, HQ.out.2, rfl, ?_, ?_⟩
  · exact get_set (get_set (get_set (get_set (get_set (get_set (get_set (RES.out) rfl) rfl) rfl) rfl) rfl) rfl) rfl
  · exact HO.out _ _ _ (HO.out _ _ _ (HO.out _ _ _ (HO.out _ _ _ (HO.out _ _ _ (HO.out _ _ _ (HO.out _ _ _ (HW.out)))))))
  · exact HCU.out _ _ _ (HCU.out _ _ _ (HCU.out _ _ _ (HCU.out _ _ _ (HCU.out _ _ _ (HCU.out _ _ _ (HCU.out _ _ _ (HC.out)))))))
set_option maxRecDepth 100000 in
set_option maxHeartbeats 1000000 in
theorem implDownGet_any (t : ByteArray) (w : World) (ht : t.size ≤ maxLen) (he : Errs w) :
    Calls Tryd.prog 41 #[.string t] w fun e w' => e = .returned (.tuple #[dgV t, .bool (dgOk t)]) ∧ Below w.heap.size w w' := by
  have hel := he.lt
  have hz : ((w.alloc (.cells #[.int .i64 0, .int .i64 0, .int .i64 0, .int .i64 0, .int .i64 0, .string ⟨#[]⟩, .string ⟨#[]⟩] 54)).alloc (.cells #[.string t, .int .i64 0, .nilIface] 109)).heap.size = w.heap.size + 2 := by simp
  have RES : Hid (((w.alloc (.cells #[.int .i64 0, .int .i64 0, .int .i64 0, .int .i64 0, .int .i64 0, .string ⟨#[]⟩, .string ⟨#[]⟩] 54)).alloc (.cells #[.string t, .int .i64 0, .nilIface] 109)).heap[w.heap.size]? = some (.cells #[.int .i64 0, .int .i64 0, .int .i64 0, .int .i64 0, .int .i64 0, .string ⟨#[]⟩, .string ⟨#[]⟩] 54)) := get_allocS (get_new rfl)
  have HC : Hid (Cur ((w.alloc (.cells #[.int .i64 0, .int .i64 0, .int .i64 0, .int .i64 0, .int .i64 0, .string ⟨#[]⟩, .string ⟨#[]⟩] 54)).alloc (.cells #[.string t, .int .i64 0, .nilIface] 109)) (w.heap.size + 1) t 0 true) := Cur.yes (by omega) (by decide) (by omega) (get_new (by simp))
  have HE : Hid (Errs ((w.alloc (.cells #[.int .i64 0, .int .i64 0, .int .i64 0, .int .i64 0, .int .i64 0, .string ⟨#[]⟩, .string ⟨#[]⟩] 54)).alloc (.cells #[.string t, .int .i64 0, .nilIface] 109))) := he.below (((Below.refl _ _).alloc (Nat.le_refl _) _).alloc (by simp) _)
  have HB : Hid (Below w.heap.size w ((w.alloc (.cells #[.int .i64 0, .int .i64 0, .int .i64 0, .int .i64 0, .int .i64 0, .string ⟨#[]⟩, .string ⟨#[]⟩] 54)).alloc (.cells #[.string t, .int .i64 0, .nilIface] 109))) := ((Below.refl _ _).alloc (Nat.le_refl _) _).alloc (by simp) _
  have HM : Hid (t.size ≤ maxLen) := ht
  clear he ht
  go_enter Tryd.func41, Tryd.ntmps41
  go_wp2_with fail
  refine (down_any (w.heap.size + 1) t _ HM.out HE.out HC.out).mono ?_
  rintro e w1 ⟨h, al, ow, fs, d, f, a, ok, hh, hfs, hd, hf, hq1, hq2, rfl, ho, hc⟩
  have hz1 : w.heap.size + 2 ≤ w1.heap.size := by have := ho.size; omega
  replace RES : Hid ((w1.alloc (.cells #[.int .i64 ((h : Int) / 16), .int .i64 ((h : Int) % 16 / 2), .int .i64 (al : Nat), .int .i64 (ow : Nat), .int .i64 ((fs : Int) - 6144), .string d, .string f] 54)).heap[w.heap.size]? = some (.cells #[.int .i64 0, .int .i64 0, .int .i64 0, .int .i64 0, .int .i64 0, .string ⟨#[]⟩, .string ⟨#[]⟩] 54)) := get_allocS (getO2 ho RES.out (by omega))
  have BOX : Hid ((w1.alloc (.cells #[.int .i64 ((h : Int) / 16), .int .i64 ((h : Int) % 16 / 2), .int .i64 (al : Nat), .int .i64 (ow : Nat), .int .i64 ((fs : Int) - 6144), .string d, .string f] 54)).heap[w1.heap.size]? = some (.cells #[.int .i64 ((h : Int) / 16), .int .i64 ((h : Int) % 16 / 2), .int .i64 (al : Nat), .int .i64 (ow : Nat), .int .i64 ((fs : Int) - 6144), .string d, .string f] 54)) := get_new rfl
  replace HC : Hid (Cur (w1.alloc (.cells #[.int .i64 ((h : Int) / 16), .int .i64 ((h : Int) % 16 / 2), .int .i64 (al : Nat), .int .i64 (ow : Nat), .int .i64 ((fs : Int) - 6144), .string d, .string f] 54)) (w.heap.size + 1) t a ok) := hc.below ((Below.refl _ _).alloc (Nat.le_refl _) _)
  replace HE : Hid (Errs (w1.alloc (.cells #[.int .i64 ((h : Int) / 16), .int .i64 ((h : Int) % 16 / 2), .int .i64 (al : Nat), .int .i64 (ow : Nat), .int .i64 ((fs : Int) - 6144), .string d, .string f] 54))) := (HE.out.only ho (by omega)).below ((Below.refl _ _).alloc (Nat.le_refl _) _)
  replace HB : Hid (Below w.heap.size w (w1.alloc (.cells #[.int .i64 ((h : Int) / 16), .int .i64 ((h : Int) % 16 / 2), .int .i64 (al : Nat), .int .i64 (ow : Nat), .int .i64 ((fs : Int) - 6144), .string d, .string f] 54))) := (HB.out.trans (ho.below (by omega) (by omega))).alloc (by omega) _
  have HQ1 : Hid _ := hq1
  have HQ2 : Hid _ := hq2
  clear ho hc hq1 hq2
  go_wp2_with fail
  refine (implDownPut_any _ _ _ _ _ _ _ _ hd hf HE.out).mono ?_
  rintro e w2 ⟨rfl, hb⟩
  obtain ⟨put, hput⟩ : ∃ put, put = dnPut ((h : Int) / 16) ((h : Int) % 16 / 2) (al : Nat) (ow : Nat) ((fs : Int) - 6144) d f := ⟨_, rfl⟩
  rw [← hput]
  replace RES : Hid (w2.heap[w.heap.size]? = some (.cells #[.int .i64 0, .int .i64 0, .int .i64 0, .int .i64 0, .int .i64 0, .string ⟨#[]⟩, .string ⟨#[]⟩] 54)) := get_below hb RES.out (size_of_get RES.out)
  replace BOX : Hid (w2.heap[w1.heap.size]? = some (.cells #[.int .i64 ((h : Int) / 16), .int .i64 ((h : Int) % 16 / 2), .int .i64 (al : Nat), .int .i64 (ow : Nat), .int .i64 ((fs : Int) - 6144), .string d, .string f] 54)) := get_below hb BOX.out (size_of_get BOX.out)
  replace HC : Hid (Cur w2 (w.heap.size + 1) t a ok) := HC.out.below hb
  replace HE : Hid (Errs w2) := HE.out.below hb
  replace HB : Hid (Below w.heap.size w w2) := HB.out.trans (hb.mono HB.out.size)
  have HPUT : Hid _ := hput
  clear hb hput
  go_wp2_with fail
  refine (must_any (w.heap.size + 1) t a ok _ _ HE.out HC.out).mono ?_
  rintro e w3 ⟨rfl, ho, hc⟩
  replace RES : Hid (w3.heap[w.heap.size]? = some (.cells #[.int .i64 0, .int .i64 0, .int .i64 0, .int .i64 0, .int .i64 0, .string ⟨#[]⟩, .string ⟨#[]⟩] 54)) := getO2 ho RES.out (by omega)
  replace BOX : Hid (w3.heap[w1.heap.size]? = some (.cells #[.int .i64 ((h : Int) / 16), .int .i64 ((h : Int) % 16 / 2), .int .i64 (al : Nat), .int .i64 (ow : Nat), .int .i64 ((fs : Int) - 6144), .string d, .string f] 54)) := getO2 ho BOX.out (by omega)
  replace HB : Hid (Below w.heap.size w w3) := HB.out.trans (ho.below (by omega) HB.out.size)
  obtain ⟨q, hq, hc⟩ : ∃ q, q = (ok && decide (put = t)) ∧ Cur w3 (w.heap.size + 1) t a q := ⟨_, rfl, by rw [← beqP]; exact hc⟩
  rw [HPUT.out] at hq
  obtain ⟨e1, e2⟩ := dg_end HQ1.out (fun h40 => HQ2.out (by omega)) hq
  have E1 : Hid _ := e1
  have E2 : Hid _ := e2
  clear hq e1 e2 ho HE HC HQ1 HQ2 HPUT
  obtain ⟨c2, c0, c1, F, hf1, hf2, hg⟩ := hc
  obtain ⟨l0, l1, l2⟩ := cells3_of hg
  obtain ⟨r0, r1, r2, r3, r4, r5, r6⟩ := cells7_of RES.out
  obtain ⟨k0, k1, k2, k3, k4, k5, k6⟩ := cells7_of BOX.out
  have fz : ∀ j, w3.frozen? ⟨w.heap.size, j, none⟩ = false := fun j => frozen_get RES.out
  clear hg
  cases q with
  | false =>
    obtain ⟨x, rfl⟩ := hf2 rfl
    have F1 : Hid _ := dgV_no E1.out
    go_wp2_with fail
    refine bodyPost_ret (v := .tuple #[.agg #[.int .i64 0, .int .i64 0, .int .i64 0, .int .i64 0, .int .i64 0, .string ⟨#[]⟩, .string ⟨#[]⟩], .bool false]) (results_row_tmp Tryd.results41 _ _ (w.heap.size) 54 #[.int .i64 0, .int .i64 0, .int .i64 0, .int .i64 0, .int .i64 0, .string ⟨#[]⟩, .string ⟨#[]⟩] (0, 0) _ rfl ?_ Tryd.underlying54 rfl cellsDg _ rfl) rfl ⟨by rw [F1.out, E1.out], ?_⟩
    · exact get_set (get_set (get_set (get_set (get_set (get_set (get_set (RES.out) rfl) rfl) rfl) rfl) rfl) rfl) rfl
    · exact belowS (belowS (belowS (belowS (belowS (belowS (belowS (HB.out) (by omega)) (by omega)) (by omega)) (by omega)) (by omega)) (by omega)) (by omega)
  | true =>
    obtain rfl := hf1 rfl
    have F1 : Hid _ := E2.out rfl
    go_wp2_with fail
    refine bodyPost_ret (v := .tuple #[.agg #[.int .i64 ((h : Int) / 16), .int .i64 ((h : Int) % 16 / 2), .int .i64 (al : Nat), .int .i64 (ow : Nat), .int .i64 ((fs : Int) - 6144), .string d, .string f], .bool true]) (results_row_tmp Tryd.results41 _ _ (w.heap.size) 54 #[.int .i64 ((h : Int) / 16), .int .i64 ((h : Int) % 16 / 2), .int .i64 (al : Nat), .int .i64 (ow : Nat), .int .i64 ((fs : Int) - 6144), .string d, .string f] (0, 0) _ rfl ?_ Tryd.underlying54 rfl cellsDg _ rfl) rfl ⟨by rw [F1.out, E1.out], ?_⟩
    · exact get_set (get_set (get_set (get_set (get_set (get_set (get_set (RES.out) rfl) rfl) rfl) rfl) rfl) rfl) rfl
    · exact belowS (belowS (belowS (belowS (belowS (belowS (belowS (HB.out) (by omega)) (by omega)) (by omega)) (by omega)) (by omega)) (by omega)) (by omega)
end Go.Proofs.YtccpdadabndleaaDoor
