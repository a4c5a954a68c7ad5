/- impl.RepGet. -/
import Derived.Test.YtccpdadabndleaaDoorRgP
namespace Go.Proofs.YtccpdadabndleaaDoor
open Go.ChangeShapes Go.WideShapes Go.ChangeAt Go.RowKit
set_option linter.unusedVariables false
theorem cellsRg : (Tryd.prog.info? 35).map (·.size) = some 6 := by kernel_rfl
theorem rnumber1 (g : Nat) (s : ByteArray) (i : Nat) (w : World) (hs : s.size ≤ 1048576) (h : Prd w g s i) (he : Eof w) (hg : 1 ≠ g) :
    Calls Tryd.prog 58 #[.pointer (some ⟨g, 0, none⟩), .int .i64 1] w fun e w' => e = .returned (.int .i64 ((if 1 ≤ s.size - i then gt s i 1 else 0 : Nat) : Int)) ∧ Prd w' g s (i + min 1 (s.size - i)) ∧ Only g w w' :=
  rnumber_any g s i 1 w hs (by decide) (by decide) h he hg
theorem rnumber4 (g : Nat) (s : ByteArray) (i : Nat) (w : World) (hs : s.size ≤ 1048576) (h : Prd w g s i) (he : Eof w) (hg : 1 ≠ g) :
    Calls Tryd.prog 58 #[.pointer (some ⟨g, 0, none⟩), .int .i64 4] w fun e w' => e = .returned (.int .i64 ((if 4 ≤ s.size - i then gt s i 4 else 0 : Nat) : Int)) ∧ Prd w' g s (i + min 4 (s.size - i)) ∧ Only g w w' :=
  rnumber_any g s i 4 w hs (by decide) (by decide) h he hg
theorem rtextR (g : Nat) (s : ByteArray) (i : Nat) (w : World) (hs : s.size ≤ 1048576) (h : Prd w g s i) (he : Eof w) (hg : 1 ≠ g) :
    Calls Tryd.prog 59 #[.pointer (some ⟨g, 0, none⟩), .int .i64 ((s.size : Int) - i)] w fun e w' => e = .returned (.string (s.extract i (i + min (s.size - i) (s.size - i)))) ∧ Only g w w' := by
  have := rtext_any g (s.size - i) s i w hs h he hg
  rw [Int.ofNat_sub h.1] at this
  exact this.mono fun e w' ⟨h1, _, h2⟩ => ⟨h1, h2⟩
theorem pgAt_zero (t : ByteArray) : pgAt t 0 = t := by
  rw [show (0 : Int) = ((0 : Nat) : Int) from rfl, pgAt_in (Nat.zero_le _)]; simp
set_option maxRecDepth 100000 in
set_option maxHeartbeats 1000000 in
theorem implRepGet_no (t : ByteArray) (w : World) (ht : t.size ≤ 1048576) (he : Eof w) (hp : pgOk t = false) :
    Calls Tryd.prog 22 #[.string t] w fun e w' => e = .returned (.tuple #[rgV t, .bool (rgOk t)]) ∧ Below w.heap.size w w' := by
  rw [rgV_no (rg_pg hp), rg_pg hp]
  have HPG : Hid (∀ W, Eof W → Calls Tryd.prog 16 #[.string t, .int .i64 0] W fun e w' => e = .returned (.tuple #[.agg #[.bool false, .int .i64 0, .int .i64 0, .string ⟨#[]⟩], .int .i64 0]) ∧ Below W.heap.size W w') := fun W he => by
    have := implPacketGet_any t 0 W ht he
    rw [pgAt_zero, (pgV_no hp).1, (pgV_no hp).2] at this; exact this
  have HG : Hid ((w.alloc (.cells #[.int .i64 0, .int .i64 0, .int .i64 0, .int .i64 0, .int .i64 0, .string ⟨#[]⟩] 35)).heap[w.heap.size]? = some (.cells #[.int .i64 0, .int .i64 0, .int .i64 0, .int .i64 0, .int .i64 0, .string ⟨#[]⟩] 35)) := get_new rfl
  have HB : Hid (Below w.heap.size w (w.alloc (.cells #[.int .i64 0, .int .i64 0, .int .i64 0, .int .i64 0, .int .i64 0, .string ⟨#[]⟩] 35))) := (Below.refl _ _).alloc (Nat.le_refl _) _
  have HE : Hid (Eof (w.alloc (.cells #[.int .i64 0, .int .i64 0, .int .i64 0, .int .i64 0, .int .i64 0, .string ⟨#[]⟩] 35))) := he.below ((Below.refl _ _).alloc (Nat.le_refl _) _)
  clear he hp
  go_enter Tryd.func22, Tryd.ntmps22
  go_wp2_with fail
  refine Calls.mono (HPG.out _ HE.out) ?_
  rintro e w1 ⟨rfl, hb⟩
  have HG1 : Hid (w1.heap[w.heap.size]? = some (.cells #[.int .i64 0, .int .i64 0, .int .i64 0, .int .i64 0, .int .i64 0, .string ⟨#[]⟩] 35)) := get_below hb HG.out (by simp)
  have HB1 : Hid (Below w.heap.size w w1) := HB.out.trans (hb.mono HB.out.size)
  have hl1 := size_of_get HG1.out
  clear hb HG HB HE HPG
  have HG2 : Hid ((w1.alloc (.cells #[.bool false, .int .i64 0, .int .i64 0, .string ⟨#[]⟩] 23)).heap[w.heap.size]? = some (.cells #[.int .i64 0, .int .i64 0, .int .i64 0, .int .i64 0, .int .i64 0, .string ⟨#[]⟩] 35)) := get_alloc HG1.out hl1
  have HB2 : Hid (Below w.heap.size w (w1.alloc (.cells #[.bool false, .int .i64 0, .int .i64 0, .string ⟨#[]⟩] 23))) := HB1.out.alloc HB1.out.size _
  obtain ⟨r0, r1, r2, r3, r4, r5⟩ := cells6_of HG1.out
  have fz : ∀ j, w1.frozen? ⟨w.heap.size, j, none⟩ = false := fun j => frozen_get HG1.out
  go_wp2_with fail
  refine bodyPost_ret (v := .tuple #[.agg #[.int .i64 0, .int .i64 0, .int .i64 0, .int .i64 0, .int .i64 0, .string ⟨#[]⟩], .bool false]) (results_row_tmp Tryd.results22 _ _ (w.heap.size) 35 #[.int .i64 0, .int .i64 0, .int .i64 0, .int .i64 0, .int .i64 0, .string ⟨#[]⟩] (0, 0) _ rfl ?_ Tryd.underlying35 rfl cellsRg _ rfl) rfl ⟨rfl, ?_⟩
  · exact get_alloc (get_set (get_set (get_set (get_set (get_set (get_set (HG1.out) rfl) rfl) rfl) rfl) rfl) rfl) (by simpa [World.setCell] using hl1)
  · exact Below.alloc (belowS (belowS (belowS (belowS (belowS (belowS (HB1.out) (by omega)) (by omega)) (by omega)) (by omega)) (by omega)) (by omega)) (belowS (belowS (belowS (belowS (belowS (belowS (HB1.out) (by omega)) (by omega)) (by omega)) (by omega)) (by omega)) (by omega)).size _
set_option maxRecDepth 100000 in
set_option maxHeartbeats 2000000 in
theorem implRepGet_yes (t : ByteArray) (w : World) (ht : t.size ≤ 1048576) (he : Eof w) (hp : pgOk t = true) :
    Calls Tryd.prog 22 #[.string t] w fun e w' => e = .returned (.tuple #[rgV t, .bool (rgOk t)]) ∧ Below w.heap.size w w' := by
  have hw : 1 < w.heap.size := by
    obtain ⟨v, _, h⟩ := he
    exact block_lt_of_cell h
  obtain ⟨hq1, hq2, hq3⟩ := pgOk_all hp
  obtain ⟨u, hu⟩ : ∃ u, u = pgU t := ⟨_, rfl⟩
  obtain ⟨a, ha⟩ : ∃ a, a = pgA t := ⟨_, rfl⟩
  obtain ⟨c, hc⟩ : ∃ c, c = pgC t := ⟨_, rfl⟩
  obtain ⟨d, hd⟩ : ∃ d, d = pgD t := ⟨_, rfl⟩
  obtain ⟨n, hn⟩ : ∃ n : Nat, n = pgL t := ⟨_, rfl⟩
  have HPG : Hid (∀ W, Eof W → Calls Tryd.prog 16 #[.string t, .int .i64 0] W fun e w' => e = .returned (.tuple #[.agg #[.bool u, .int .i64 a, .int .i64 c, .string d], .int .i64 n]) ∧ Below W.heap.size W w') := fun W he => by
    have := implPacketGet_any t 0 W ht he
    rw [pgAt_zero] at this
    unfold pgV pgN at this
    rw [if_pos hp, if_pos hp, ← hu, ← ha, ← hc, ← hd, ← hn] at this
    exact this
  have hn0 : 7 ≤ n := by rw [hn]; unfold pgL; omega
  have hds : d.size ≤ 1048576 := by rw [← hd] at hq3; omega
  have hdm : d.size ≤ maxLen := by unfold maxLen; omega
  have HD : Hid (d.size ≤ 1048576) := hds
  have HDM : Hid (d.size ≤ maxLen) := hdm
  have HQ : Hid (pgOk t = true ∧ pgD t = d ∧ pgA t = a ∧ pgC t = c) := ⟨hp, hd.symm, ha.symm, hc.symm⟩
  have HEW : Hid (Eof w) := he
  clear hq1 hq2 hq3 hu hn hdm hp ha hc hd
  have HG : Hid ((w.alloc (.cells #[.int .i64 0, .int .i64 0, .int .i64 0, .int .i64 0, .int .i64 0, .string ⟨#[]⟩] 35)).heap[w.heap.size]? = some (.cells #[.int .i64 0, .int .i64 0, .int .i64 0, .int .i64 0, .int .i64 0, .string ⟨#[]⟩] 35)) := get_new rfl
  have HB : Hid (Below w.heap.size w (w.alloc (.cells #[.int .i64 0, .int .i64 0, .int .i64 0, .int .i64 0, .int .i64 0, .string ⟨#[]⟩] 35))) := (Below.refl _ _).alloc (Nat.le_refl _) _
  clear he
  go_enter Tryd.func22, Tryd.ntmps22
  go_wp2_with fail
  refine Calls.mono (HPG.out _ (HEW.out.below HB.out)) ?_
  rintro e w1 ⟨rfl, hb⟩
  have HG1 : Hid (w1.heap[w.heap.size]? = some (.cells #[.int .i64 0, .int .i64 0, .int .i64 0, .int .i64 0, .int .i64 0, .string ⟨#[]⟩] 35)) := get_below hb HG.out (by simp)
  have HB1 : Hid (Below w.heap.size w w1) := HB.out.trans (hb.mono HB.out.size)
  have hl1 := size_of_get HG1.out
  clear hb HG HB HPG
  have HG2 : Hid ((w1.alloc (.cells #[.bool u, .int .i64 a, .int .i64 c, .string d] 23)).heap[w.heap.size]? = some (.cells #[.int .i64 0, .int .i64 0, .int .i64 0, .int .i64 0, .int .i64 0, .string ⟨#[]⟩] 35)) := get_alloc HG1.out hl1
  have HB2 : Hid (Below w.heap.size w (w1.alloc (.cells #[.bool u, .int .i64 a, .int .i64 c, .string d] 23))) := HB1.out.alloc HB1.out.size _
  have HK2 : Hid ((w1.alloc (.cells #[.bool u, .int .i64 a, .int .i64 c, .string d] 23)).heap[w1.heap.size]? = some (.cells #[.bool u, .int .i64 a, .int .i64 c, .string d] 23)) := get_new rfl
  obtain ⟨k0, k1, k2, k3⟩ := cells4_of HK2.out
  have hni : ¬ ((n : Int) = 0) := by omega
  go_wp2_with fail
  refine (newReader_any d _).mono ?_
  rintro e w2 ⟨rfl, hp2, hb⟩
  have hz : (w1.alloc (.cells #[.bool u, .int .i64 a, .int .i64 c, .string d] 23)).heap.size = w1.heap.size + 1 := by simp
  rw [hz] at hp2
  have HP : Hid (Prd w2 (w1.heap.size + 1) d 0) := hp2
  have HG : Hid (w2.heap[w.heap.size]? = some (.cells #[.int .i64 0, .int .i64 0, .int .i64 0, .int .i64 0, .int .i64 0, .string ⟨#[]⟩] 35)) := get_below hb HG2.out (by simp; omega)
  have HK : Hid (w2.heap[w1.heap.size]? = some (.cells #[.bool u, .int .i64 a, .int .i64 c, .string d] 23)) := get_below hb HK2.out (by simp)
  have HB : Hid (Below w.heap.size w w2) := HB2.out.trans (hb.mono HB2.out.size)
  clear hp2 hb k0 k1 k2 k3 HG1 HB1 HG2 HB2 HK2
  simp only [hz]
  clear hz
  go_wp2_with fail
  refine (rnumber1 (w1.heap.size + 1) d 0 w2 HD.out HP.out (HEW.out.below HB.out) (by omega)).mono ?_
  rintro e w3 ⟨rfl, hp3, ho⟩
  have hl2 := HP.out.lt
  have hl3 := hp3.lt
  replace HG : Hid (w3.heap[w.heap.size]? = some (.cells #[.int .i64 0, .int .i64 0, .int .i64 0, .int .i64 0, .int .i64 0, .string ⟨#[]⟩] 35)) := getOP ho HG.out (by omega)
  replace HK : Hid (w3.heap[w1.heap.size]? = some (.cells #[.bool u, .int .i64 a, .int .i64 c, .string d] 23)) := getOP ho HK.out (by omega)
  replace HB : Hid (Below w.heap.size w w3) := HB.out.trans (ho.below (by omega) HB.out.size)
  replace HP : Hid (Prd w3 (w1.heap.size + 1) d (0 + min 1 (d.size - 0))) := hp3
  clear hp3 ho
  generalize (if 1 ≤ d.size - 0 then gt d 0 1 else 0) = v0 at *
  generalize ei1 : 0 + min 1 (d.size - 0) = i1 at *
  obtain ⟨k0, k1, k2, k3⟩ := cells4_of HK.out
  have HT : Hid ((w3.alloc (.cells #[.int .i64 a, .int .i64 c, .int .i64 0, .int .i64 0, .int .i64 0, .string ⟨#[]⟩] 35)).heap[w3.heap.size]? = some (.cells #[.int .i64 a, .int .i64 c, .int .i64 0, .int .i64 0, .int .i64 0, .string ⟨#[]⟩] 35)) := get_new rfl
  have HG3 : Hid ((w3.alloc (.cells #[.int .i64 a, .int .i64 c, .int .i64 0, .int .i64 0, .int .i64 0, .string ⟨#[]⟩] 35)).heap[w.heap.size]? = some (.cells #[.int .i64 0, .int .i64 0, .int .i64 0, .int .i64 0, .int .i64 0, .string ⟨#[]⟩] 35)) := get_alloc HG.out (by omega)
  have HB3 : Hid (Below w.heap.size w (w3.alloc (.cells #[.int .i64 a, .int .i64 c, .int .i64 0, .int .i64 0, .int .i64 0, .string ⟨#[]⟩] 35))) := HB.out.alloc HB.out.size _
  have HP3 : Hid (Prd (w3.alloc (.cells #[.int .i64 a, .int .i64 c, .int .i64 0, .int .i64 0, .int .i64 0, .string ⟨#[]⟩] 35)) (w1.heap.size + 1) d i1) := HP.out.below ((Below.refl _ _).alloc (Nat.le_refl _) _)
  clear HB HG HP HK
  go_wp2_with fail
  clear k0 k1 k2 k3
  refine (rnumber1 (w1.heap.size + 1) d i1 _ HD.out HP3.out (HEW.out.below HB3.out) (by omega)).mono ?_
  rintro e w4 ⟨rfl, hpn, ho⟩
  have HT4 : Hid (w4.heap[w3.heap.size]? = some (.cells #[.int .i64 a, .int .i64 c, .int .i64 0, .int .i64 0, .int .i64 0, .string ⟨#[]⟩] 35)) := getOP ho HT.out (by omega)
  have HG4 : Hid (w4.heap[w.heap.size]? = some (.cells #[.int .i64 0, .int .i64 0, .int .i64 0, .int .i64 0, .int .i64 0, .string ⟨#[]⟩] 35)) := getOP ho HG3.out (by omega)
  have HB4 : Hid (Below w.heap.size w w4) := HB3.out.trans (ho.below (by omega) HB3.out.size)
  have HP4 : Hid (Prd w4 (w1.heap.size + 1) d (i1 + min 1 (d.size - i1))) := hpn
  clear hpn ho HT HG3 HB3 HP3
  generalize ev1 : (if 1 ≤ d.size - i1 then gt d i1 1 else 0) = sv at *
  generalize ei2 : i1 + min 1 (d.size - i1) = i2 at *
  have hl4 := size_of_get HT4.out
  obtain ⟨t0, t1, t2, t3, t4, t5⟩ := cells6_of HT4.out
  have fz : ∀ j, w4.frozen? ⟨w3.heap.size, j, none⟩ = false := fun j => frozen_get HT4.out
  have HT4s : Hid ((w4.setCell ⟨w3.heap.size, 2, none⟩ (.int .i64 (sv : Nat))).heap[w3.heap.size]? = some (.cells #[.int .i64 a, .int .i64 c, .int .i64 (sv : Nat), .int .i64 0, .int .i64 0, .string ⟨#[]⟩] 35)) := get_set HT4.out rfl
  have HG4s : Hid ((w4.setCell ⟨w3.heap.size, 2, none⟩ (.int .i64 (sv : Nat))).heap[w.heap.size]? = some (.cells #[.int .i64 0, .int .i64 0, .int .i64 0, .int .i64 0, .int .i64 0, .string ⟨#[]⟩] 35)) := get_set_ne HG4.out (by omega)
  have HB4s : Hid (Below w.heap.size w (w4.setCell ⟨w3.heap.size, 2, none⟩ (.int .i64 (sv : Nat)))) := belowS HB4.out (by omega)
  have HP4s : Hid (Prd (w4.setCell ⟨w3.heap.size, 2, none⟩ (.int .i64 (sv : Nat))) (w1.heap.size + 1) d i2) := HP4.out.set (by omega)
  clear HG4 HB4 HP4 HT4
  go_wp2_with fail
  refine (rnumber1 (w1.heap.size + 1) d i2 _ HD.out HP4s.out (HEW.out.below HB4s.out) (by omega)).mono ?_
  rintro e w5 ⟨rfl, hpn, ho⟩
  have HT5 : Hid (w5.heap[w3.heap.size]? = some (.cells #[.int .i64 a, .int .i64 c, .int .i64 (sv : Nat), .int .i64 0, .int .i64 0, .string ⟨#[]⟩] 35)) := getOP ho HT4s.out (by omega)
  have HG5 : Hid (w5.heap[w.heap.size]? = some (.cells #[.int .i64 0, .int .i64 0, .int .i64 0, .int .i64 0, .int .i64 0, .string ⟨#[]⟩] 35)) := getOP ho HG4s.out (by omega)
  have HB5 : Hid (Below w.heap.size w w5) := HB4s.out.trans (ho.below (by omega) HB4s.out.size)
  have HP5 : Hid (Prd w5 (w1.heap.size + 1) d (i2 + min 1 (d.size - i2))) := hpn
  clear hpn ho HT4s HG4s HB4s HP4s
  clear t0 t1 t2 t3 t4 t5 fz
  generalize ev2 : (if 1 ≤ d.size - i2 then gt d i2 1 else 0) = sb at *
  generalize ei3 : i2 + min 1 (d.size - i2) = i3 at *
  have hl5 := size_of_get HT5.out
  obtain ⟨t0, t1, t2, t3, t4, t5⟩ := cells6_of HT5.out
  have fz : ∀ j, w5.frozen? ⟨w3.heap.size, j, none⟩ = false := fun j => frozen_get HT5.out
  have HT5s : Hid ((w5.setCell ⟨w3.heap.size, 3, none⟩ (.int .i64 (sb : Nat))).heap[w3.heap.size]? = some (.cells #[.int .i64 a, .int .i64 c, .int .i64 (sv : Nat), .int .i64 (sb : Nat), .int .i64 0, .string ⟨#[]⟩] 35)) := get_set HT5.out rfl
  have HG5s : Hid ((w5.setCell ⟨w3.heap.size, 3, none⟩ (.int .i64 (sb : Nat))).heap[w.heap.size]? = some (.cells #[.int .i64 0, .int .i64 0, .int .i64 0, .int .i64 0, .int .i64 0, .string ⟨#[]⟩] 35)) := get_set_ne HG5.out (by omega)
  have HB5s : Hid (Below w.heap.size w (w5.setCell ⟨w3.heap.size, 3, none⟩ (.int .i64 (sb : Nat)))) := belowS HB5.out (by omega)
  have HP5s : Hid (Prd (w5.setCell ⟨w3.heap.size, 3, none⟩ (.int .i64 (sb : Nat))) (w1.heap.size + 1) d i3) := HP5.out.set (by omega)
  clear HG5 HB5 HP5 HT5
  go_wp2_with fail
  refine (rnumber4 (w1.heap.size + 1) d i3 _ HD.out HP5s.out (HEW.out.below HB5s.out) (by omega)).mono ?_
  rintro e w6 ⟨rfl, hpn, ho⟩
  have HT6 : Hid (w6.heap[w3.heap.size]? = some (.cells #[.int .i64 a, .int .i64 c, .int .i64 (sv : Nat), .int .i64 (sb : Nat), .int .i64 0, .string ⟨#[]⟩] 35)) := getOP ho HT5s.out (by omega)
  have HG6 : Hid (w6.heap[w.heap.size]? = some (.cells #[.int .i64 0, .int .i64 0, .int .i64 0, .int .i64 0, .int .i64 0, .string ⟨#[]⟩] 35)) := getOP ho HG5s.out (by omega)
  have HB6 : Hid (Below w.heap.size w w6) := HB5s.out.trans (ho.below (by omega) HB5s.out.size)
  have HP6 : Hid (Prd w6 (w1.heap.size + 1) d (i3 + min 4 (d.size - i3))) := hpn
  clear hpn ho HT5s HG5s HB5s HP5s
  clear t0 t1 t2 t3 t4 t5 fz
  generalize ev3 : (if 4 ≤ d.size - i3 then gt d i3 4 else 0) = tm at *
  generalize ei4 : i3 + min 4 (d.size - i3) = i4 at *
  have hl6 := size_of_get HT6.out
  obtain ⟨t0, t1, t2, t3, t4, t5⟩ := cells6_of HT6.out
  have fz : ∀ j, w6.frozen? ⟨w3.heap.size, j, none⟩ = false := fun j => frozen_get HT6.out
  have HT6s : Hid ((w6.setCell ⟨w3.heap.size, 4, none⟩ (.int .i64 (tm : Nat))).heap[w3.heap.size]? = some (.cells #[.int .i64 a, .int .i64 c, .int .i64 (sv : Nat), .int .i64 (sb : Nat), .int .i64 (tm : Nat), .string ⟨#[]⟩] 35)) := get_set HT6.out rfl
  have HG6s : Hid ((w6.setCell ⟨w3.heap.size, 4, none⟩ (.int .i64 (tm : Nat))).heap[w.heap.size]? = some (.cells #[.int .i64 0, .int .i64 0, .int .i64 0, .int .i64 0, .int .i64 0, .string ⟨#[]⟩] 35)) := get_set_ne HG6.out (by omega)
  have HB6s : Hid (Below w.heap.size w (w6.setCell ⟨w3.heap.size, 4, none⟩ (.int .i64 (tm : Nat)))) := belowS HB6.out (by omega)
  have HP6s : Hid (Prd (w6.setCell ⟨w3.heap.size, 4, none⟩ (.int .i64 (tm : Nat))) (w1.heap.size + 1) d i4) := HP6.out.set (by omega)
  clear HG6 HB6 HP6 HT6
  go_wp2_with fail
  refine (rlen_any (w1.heap.size + 1) d i4 _ HDM.out HP6s.out).mono ?_
  rintro e w7 ⟨rfl, hb⟩
  have hls := size_of_get HT6s.out
  have HT7 : Hid (w7.heap[w3.heap.size]? = some (.cells #[.int .i64 a, .int .i64 c, .int .i64 (sv : Nat), .int .i64 (sb : Nat), .int .i64 (tm : Nat), .string ⟨#[]⟩] 35)) := get_below hb HT6s.out hls
  have HG7 : Hid (w7.heap[w.heap.size]? = some (.cells #[.int .i64 0, .int .i64 0, .int .i64 0, .int .i64 0, .int .i64 0, .string ⟨#[]⟩] 35)) := get_below hb HG6s.out (size_of_get HG6s.out)
  have HP7 : Hid (Prd w7 (w1.heap.size + 1) d i4) := HP6s.out.below hb
  have HB7 : Hid (Below w.heap.size w w7) := HB6s.out.trans (hb.mono HB6s.out.size)
  clear hb hls t0 t1 t2 t3 t4 t5 fz HT6s HG6s HB6s HP6s
  go_wp2_with fail
  refine (rtextR (w1.heap.size + 1) d i4 _ HD.out HP7.out (HEW.out.below HB7.out) (by omega)).mono ?_
  rintro e w8 ⟨rfl, ho⟩
  have HT8 : Hid (w8.heap[w3.heap.size]? = some (.cells #[.int .i64 a, .int .i64 c, .int .i64 (sv : Nat), .int .i64 (sb : Nat), .int .i64 (tm : Nat), .string ⟨#[]⟩] 35)) := getOP ho HT7.out (by omega)
  have HG8 : Hid (w8.heap[w.heap.size]? = some (.cells #[.int .i64 0, .int .i64 0, .int .i64 0, .int .i64 0, .int .i64 0, .string ⟨#[]⟩] 35)) := getOP ho HG7.out (by omega)
  have HB8 : Hid (Below w.heap.size w w8) := HB7.out.trans (ho.below (by omega) HB7.out.size)
  clear ho HT7 HG7 HP7 HB7
  have hxs : (d.extract i4 (i4 + min (d.size - i4) (d.size - i4))).size ≤ maxLen := Nat.le_trans (by rw [ByteArray.size_extract]; omega) HDM.out
  generalize ex : d.extract i4 (i4 + min (d.size - i4) (d.size - i4)) = x at *
  have HX : Hid (x.size ≤ maxLen) := hxs
  have hl8 := size_of_get HT8.out
  obtain ⟨t0, t1, t2, t3, t4, t5⟩ := cells6_of HT8.out
  have fz : ∀ j, w8.frozen? ⟨w3.heap.size, j, none⟩ = false := fun j => frozen_get HT8.out
  have HT8s : Hid ((w8.setCell ⟨w3.heap.size, 5, none⟩ (.string x)).heap[w3.heap.size]? = some (.cells #[.int .i64 a, .int .i64 c, .int .i64 (sv : Nat), .int .i64 (sb : Nat), .int .i64 (tm : Nat), .string x] 35)) := get_set HT8.out rfl
  have HG8s : Hid ((w8.setCell ⟨w3.heap.size, 5, none⟩ (.string x)).heap[w.heap.size]? = some (.cells #[.int .i64 0, .int .i64 0, .int .i64 0, .int .i64 0, .int .i64 0, .string ⟨#[]⟩] 35)) := get_set_ne HG8.out (by omega)
  have HB8s : Hid (Below w.heap.size w (w8.setCell ⟨w3.heap.size, 5, none⟩ (.string x))) := belowS HB8.out (by omega)
  clear HT8 HG8 HB8
  obtain ⟨q1, q2⟩ := rg_end (z0 := 0) HQ.out.1 d HQ.out.2.1 ei1 ev1 ei2 ev2 ei3 ev3 ei4 ex
  rw [HQ.out.2.2.1, HQ.out.2.2.2] at q1 q2
  have Q1 : Hid _ := q1
  have Q2 : Hid _ := q2
  clear q1 q2 ei1 ev1 ei2 ev2 ei3 ev3 ei4 ex HQ hxs
  go_wp2_with fail
  refine (implRepPut_any a c sv sb tm x _ HX.out).mono ?_
  rintro e w9 ⟨rfl, hb⟩
  have HT9 : Hid (w9.heap[w3.heap.size]? = some (.cells #[.int .i64 a, .int .i64 c, .int .i64 (sv : Nat), .int .i64 (sb : Nat), .int .i64 (tm : Nat), .string x] 35)) := get_below hb HT8s.out (size_of_get HT8s.out)
  have HG9 : Hid (w9.heap[w.heap.size]? = some (.cells #[.int .i64 0, .int .i64 0, .int .i64 0, .int .i64 0, .int .i64 0, .string ⟨#[]⟩] 35)) := get_below hb HG8s.out (size_of_get HG8s.out)
  have HB9 : Hid (Below w.heap.size w w9) := HB8s.out.trans (hb.mono HB8s.out.size)
  clear hb t0 t1 t2 t3 t4 t5 fz HT8s HG8s HB8s
  have q1 := Q1.out
  generalize rpPut a c sv sb tm x = put at *
  obtain ⟨r0, r1, r2, r3, r4, r5⟩ := cells6_of HG9.out
  obtain ⟨t0, t1, t2, t3, t4, t5⟩ := cells6_of HT9.out
  have fz : ∀ j, w9.frozen? ⟨w.heap.size, j, none⟩ = false := fun j => frozen_get HG9.out
  have hl9 := size_of_get HT9.out
  cases hk : rgOk t with
  | false =>
    rw [hk] at q1
    have hne0 : (put.toList == t.toList) = false := by
      rw [beqP]; exact q1.symm
    have hne : (put.toList != t.toList) = true := by
      unfold bne; rw [beqP, ← q1]; rfl
    have F1 : Hid _ := rgV_no hk
    have F2 : Hid _ := hk
    clear q1 Q1 Q2 hk
    go_wp2_with fail
    refine bodyPost_ret (v := .tuple #[.agg #[.int .i64 0, .int .i64 0, .int .i64 0, .int .i64 0, .int .i64 0, .string ⟨#[]⟩], .bool false]) (results_row_tmp Tryd.results22 _ _ (w.heap.size) 35 #[.int .i64 0, .int .i64 0, .int .i64 0, .int .i64 0, .int .i64 0, .string ⟨#[]⟩] (0, 0) _ rfl ?_ Tryd.underlying35 rfl cellsRg _ rfl) rfl ⟨by rw [F1.out, F2.out], ?_⟩
    · exact get_set (get_set (get_set (get_set (get_set (get_set (HG9.out) rfl) rfl) rfl) rfl) rfl) rfl
    · exact belowS (belowS (belowS (belowS (belowS (belowS (HB9.out) (by omega)) (by omega)) (by omega)) (by omega)) (by omega)) (by omega)
  | true =>
    rw [hk] at q1
    have hne0 : (put.toList == t.toList) = true := by
      rw [beqP]; exact q1.symm
    have hne : (put.toList != t.toList) = false := by
      unfold bne; rw [beqP, ← q1]; rfl
    have F1 : Hid _ := Q2.out hk
    have F2 : Hid _ := hk
    clear q1 Q1 Q2 hk
    go_wp2_with fail
    refine bodyPost_ret (v := .tuple #[.agg #[.int .i64 a, .int .i64 c, .int .i64 (sv : Nat), .int .i64 (sb : Nat), .int .i64 (tm : Nat), .string x], .bool true]) (results_row_tmp Tryd.results22 _ _ (w.heap.size) 35 #[.int .i64 a, .int .i64 c, .int .i64 (sv : Nat), .int .i64 (sb : Nat), .int .i64 (tm : Nat), .string x] (0, 0) _ rfl ?_ Tryd.underlying35 rfl cellsRg _ rfl) rfl ⟨by rw [F1.out, F2.out], ?_⟩
    · exact get_set (get_set (get_set (get_set (get_set (get_set (HG9.out) rfl) rfl) rfl) rfl) rfl) rfl
    · exact belowS (belowS (belowS (belowS (belowS (belowS (HB9.out) (by omega)) (by omega)) (by omega)) (by omega)) (by omega)) (by omega)
theorem implRepGet_any (t : ByteArray) (w : World) (ht : t.size ≤ 1048576) (he : Eof w) :
    Calls Tryd.prog 22 #[.string t] w fun e w' => e = .returned (.tuple #[rgV t, .bool (rgOk t)]) ∧ Below w.heap.size w w' := by
  cases hp : pgOk t with
  | false => exact implRepGet_no t w ht he hp
  | true => exact implRepGet_yes t w ht he hp
end Go.Proofs.YtccpdadabndleaaDoor
