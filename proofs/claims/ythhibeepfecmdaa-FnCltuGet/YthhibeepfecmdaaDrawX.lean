/- The contracts of spec.l14Spoil, spec.l15Turn and spec.DrawCltuGet. -/
import Derived.Test.YthhibeepfecmdaaDrawT
import Derived.Test.YthhibeepfecmdaaTurn
import Derived.Test.YthhibeepfecmdaaCltW
import Derived.Test.YthhibeepfecmdaaHeap
namespace Go.Proofs.Ythhibeepfecmdaa
open Go.ChangeShapes Go.WideShapes Go.ChangeAt Go.RowKit
set_option linter.unusedVariables false
theorem cellsLink : (Try.prog.info? 176).map (·.size) = some 2 := by kernel_rfl
theorem onlyB {g : Nat} {w w' : World} (h : Below w.heap.size w w') : Only g w w' := ⟨h.os, h.tape, h.output, h.size, fun k hk _ => h.block k hk⟩
set_option maxRecDepth 100000 in
set_option maxHeartbeats 2000000 in
theorem l14Spoil_any (s : ByteArray) (n : Nat) (w : World) (h1 : 1 ≤ s.size) (hs : s.size ≤ 1000000) (hn : n ≤ 100000000) :
    Calls Try.prog 141 #[.string s, .int .i64 (n : Int)] w fun e w' => ∃ u : ByteArray, u.size = s.size ∧ e = .returned (.agg #[.string u, .bool true]) ∧ Below w.heap.size w w' := by
  have HB0 : Hid (Below w.heap.size w (w.alloc (.cells #[.string ⟨#[]⟩, .bool false] 176))) := (Below.refl _ _).alloc (Nat.le_refl _) _
  have HG0 : Hid ((w.alloc (.cells #[.string ⟨#[]⟩, .bool false] 176)).heap[w.heap.size]? = some (.cells #[.string ⟨#[]⟩, .bool false] 176)) := get_new rfl
  obtain ⟨cap', W, hcv, hcell, hfz, hbW, hgW⟩ := bytes_new s (w.alloc (.cells #[.string ⟨#[]⟩, .bool false] 176))
  simp only [World.size_alloc] at hcv hcell hfz hgW
  obtain ⟨k, hk⟩ : ∃ k, k = n % 4096 % s.size := ⟨_, rfl⟩
  have hks : k < s.size := by rw [hk]; exact Nat.mod_lt _ (by omega)
  have e1 : True → (n : Int) % 4096 % (s.size : Int) = (k : Int) := fun _ => by rw [hk]; simp
  have hne0 : ((s.size : Int) == 0) = false := by rw [beq_eq_false_iff_ne]; omega
  have hki : (k : Int) < (s.size : Int) := by omega
  have hkc := hcell _ hks
  have hkf := hfz _ hks
  have hbl := byteAt_lt s k
  have hxo : bits .xor .u8 ((byteAt s k : Nat) : Int) (1 + (n : Int) / 4096 % 127) = ((byteAt s k ^^^ (1 + n / 4096 % 127) : Nat) : Int) := by
    rw [show 1 + (n : Int) / 4096 % 127 = ((1 + n / 4096 % 127 : Nat) : Int) from by omega, u8_xor_nat _ _ (by omega) (by omega)]
  have hvl : byteAt s k ^^^ (1 + n / 4096 % 127) < 256 := Nat.xor_lt_two_pow (n := 8) hbl (by omega)
  have hct := bytes_turned s W (w.heap.size + 1) cap' k _ hcell hks hvl
  have HU : Hid ((setB s k (byteAt s k ^^^ (1 + n / 4096 % 127))).size = s.size) := setB_size _ _ _
  generalize setB s k (byteAt s k ^^^ (1 + n / 4096 % 127)) = u at *
  generalize byteAt s k ^^^ (1 + n / 4096 % 127) = v at hxo hct hvl
  have hG : W.heap[w.heap.size]? = some (.cells #[.string ⟨#[]⟩, .bool false] 176) := get_below hbW HG0.out (by simp)
  have HG : Hid ((W.setCell ⟨w.heap.size + 1, k, none⟩ (.int .u8 (v : Int))).heap[w.heap.size]? = some (.cells #[.string ⟨#[]⟩, .bool false] 176)) := get_set_ne hG (by omega)
  have HB : Hid (Below w.heap.size w (W.setCell ⟨w.heap.size + 1, k, none⟩ (.int .u8 (v : Int)))) := belowS (HB0.out.trans (hbW.mono HB0.out.size)) (by omega)
  have hr0 : W.cell? ⟨w.heap.size, 0, none⟩ = some (.string ⟨#[]⟩) := cell_get hG rfl
  have hr1 : W.cell? ⟨w.heap.size, 1, none⟩ = some (.bool false) := cell_get hG rfl
  have hrf : ∀ j, W.frozen? ⟨w.heap.size, j, none⟩ = false := fun j => frozen_get hG
  clear hcell hfz hbW hk hG
  go_enter Try.func141, Try.ntmps141
  go_wp2_with fail
  refine bodyPost_ret (v := .agg #[.string u, .bool true]) (results_cell_row Try.results141 _ _ (w.heap.size) 176 #[.string u, .bool true] (0, 0) _ rfl ?_ Try.underlying176 rfl cellsLink) rfl ⟨u, HU.out, rfl, ?_⟩
  · exact get_set (get_set HG.out rfl) rfl
  · exact belowS (belowS HB.out (Nat.le_refl _)) (Nat.le_refl _)
theorem field_link (u : ByteArray) (b : Bool) (w : World) : Sem.run Try.prog (Instr.field 176 (.agg #[.string u, .bool b]) 0) w = .ok (.string u) w := by kernel_rfl
set_option maxRecDepth 100000 in
set_option maxHeartbeats 2000000 in
theorem l15Turn_any (N g : Nat) (s : ByteArray) (w : World) (hN : N ≤ 536870912) (hs : s.size ≤ 1000000) (hr : Rd N w g) :
    Calls Try.prog 77 #[.pointer (some ⟨g, 0, none⟩), .string s] w fun e w' => ∃ u : ByteArray, u.size = s.size ∧ e = .returned (.string u) ∧ Only g w w' ∧ Rd (N + 3) w' g := by
  have HR : Hid _ := hr
  clear hr
  cases he : s.toList.isEmpty
  · have h1 : 1 ≤ s.size := by
      rcases Nat.eq_zero_or_pos s.size with h0 | h0
      · have hl : s.data.toList.length = 0 := by simpa using h0
        rw [ByteArray.toList_eq, List.length_eq_zero_iff.1 hl] at he
        simp at he
      · exact h0
    go_enter Try.func77, Try.ntmps77
    go_wp2_with fail
    refine (pickI N g _ _ (by omega) (by omega) (by omega) HR.out).mono ?_
    rintro e w1 ⟨p1, hp1, rfl, ho1, hr1⟩
    have HO1 : Hid _ := ho1
    have HR1 : Hid _ := hr1
    clear ho1 hr1
    go_wp2_with fail
    refine (pickI (N + 1) g _ _ (by omega) (by omega) (by omega) HR1.out).mono ?_
    rintro e w2 ⟨p2, hp2, rfl, ho2, hr2⟩
    have HO2 : Hid (Only g w w2) := HO1.out.trans ho2
    have HR2 : Hid _ := hr2
    clear ho2 hr2
    go_wp2_with fail
    refine (pickI (N + 1 + 1) g _ _ (by omega) (by omega) (by omega) HR2.out).mono ?_
    rintro e w3 ⟨p3, hp3, rfl, ho3, hr3⟩
    have HO3 : Hid (Only g w w3) := HO2.out.trans ho3
    have HR3 : Hid (Rd (N + 3) w3 g) := hr3
    clear ho3 hr3
    have HSP : Hid (Calls Try.prog 141 #[.string s, .int .i64 ((p1 : Int) + (p2 : Int) * 256 + (p3 : Int) * 4096)] w3 fun e w' => ∃ u : ByteArray, u.size = s.size ∧ e = .returned (.agg #[.string u, .bool true]) ∧ Below w3.heap.size w3 w') := by
      have := l14Spoil_any s (p1 + p2 * 256 + p3 * 4096) w3 h1 hs (by omega)
      rw [show ((p1 + p2 * 256 + p3 * 4096 : Nat) : Int) = (p1 : Int) + (p2 : Int) * 256 + (p3 : Int) * 4096 from by omega] at this
      exact this
    go_wp2_with fail
    refine HSP.out.mono ?_
    rintro e w4 ⟨u, hu, rfl, hb4⟩
    have HO4 : Hid (Only g w w4) := HO3.out.trans (onlyB hb4)
    have HR4 : Hid (Rd (N + 3) w4 g) := HR3.out.below hb4
    have HU : Hid _ := hu
    clear hb4 hu
    have hfl := field_link u true w4
    go_wp2_with fail
    go_ret
    exact ⟨u, HU.out, rfl, HO4.out, HR4.out⟩
  · go_enter Try.func77, Try.ntmps77
    go_wp2_with fail
    go_ret
    exact ⟨s, rfl, rfl, Only.refl _ _, Rd.mono HR.out (by omega)⟩
set_option maxRecDepth 100000 in
set_option maxHeartbeats 2000000 in
theorem DrawCltuGet_any (a : Option Addr) (len cap : Nat) (zs : List Int) (w : World) (h : IsRow .u8 w a len cap zs) :
    Calls Try.prog 19 #[.slice a len cap] w fun e w' => ∃ s : ByteArray, s.size ≤ 200 ∧ e = .returned (.string s) ∧ Below w.heap.size w w' := by
  have H : Hid _ := h
  clear h
  go_enter Try.func19, Try.ntmps19
  go_wp2_with fail
  refine (l1Open_any a len cap zs _ H.out).mono ?_
  rintro e w1 ⟨rfl, hb1, hr1⟩
  have HB1 : Hid (Below w.heap.size w w1) := hb1
  have HR1 : Hid (Rd 0 w1 w.heap.size) := hr1
  clear hb1 hr1
  go_wp2_with fail
  refine (l15Text_any 0 71 w.heap.size w1 (by omega) (by omega) HR1.out).mono ?_
  rintro e w2 ⟨s1, hs1, rfl, ho2, hr2⟩
  have HB2 : Hid (Below w.heap.size w w2) := HB1.out.trans (ho2.below (Nat.le_refl _) HB1.out.size)
  have HR2 : Hid (Rd 214 w2 w.heap.size) := hr2
  clear ho2 hr2
  go_wp2_with fail
  refine (l2Blocks_any s1 _ (by omega)).mono ?_
  rintro e w3 ⟨rfl, hb3⟩
  have HB3 : Hid (Below w.heap.size w w3) := HB2.out.trans (hb3.mono HB2.out.size)
  have HR3 : Hid (Rd 214 w3 w.heap.size) := HR2.out.below hb3
  clear hb3
  have hbs : (blksB s1 ((s1.size + 6) / 7)).size ≤ 88 := by rw [blksB_size]; omega
  generalize blksB s1 ((s1.size + 6) / 7) = t at *
  go_wp2_with fail
  refine (pickI 214 w.heap.size _ _ (by omega) (by omega) (by omega) HR3.out).mono ?_
  rintro e w4 ⟨p, hp, rfl, ho4, hr4⟩
  have HB4 : Hid (Below w.heap.size w w4) := HB3.out.trans (ho4.below (Nat.le_refl _) HB3.out.size)
  have HR4 : Hid (Rd 215 w4 w.heap.size) := hr4
  clear ho4 hr4
  have hcase : p = 0 ∨ p = 1 ∨ p = 2 := by omega
  rcases hcase with rfl | rfl | rfl
  · go_wp2_with fail
    refine (l15Turn_any 215 w.heap.size t _ (by omega) (by omega) HR4.out).mono ?_
    rintro e w5 ⟨u, hu, rfl, ho5, hr5⟩
    have HB5 : Hid (Below w.heap.size w w5) := HB4.out.trans (ho5.below (Nat.le_refl _) HB4.out.size)
    have HU : Hid _ := hu
    clear ho5 hr5 hu
    go_wp2_with fail
    go_ret
    exact ⟨u, by rw [HU.out]; omega, rfl, HB5.out⟩
  · go_wp2_with fail
    refine (l15Text_any 215 20 w.heap.size _ (by omega) (by omega) HR4.out).mono ?_
    rintro e w5 ⟨u, hu, rfl, ho5, hr5⟩
    have HB5 : Hid (Below w.heap.size w w5) := HB4.out.trans (ho5.below (Nat.le_refl _) HB4.out.size)
    clear ho5 hr5
    go_wp2_with fail
    go_ret
    exact ⟨t ++ u, by rw [ByteArray.size_append]; omega, rfl, HB5.out⟩
  · go_wp2_with fail
    refine (pickI 215 w.heap.size _ _ (by omega) (by omega) (by omega) HR4.out).mono ?_
    rintro e w5 ⟨q, hq, rfl, ho5, hr5⟩
    have HB5 : Hid (Below w.heap.size w w5) := HB4.out.trans (ho5.below (Nat.le_refl _) HB4.out.size)
    clear ho5 hr5
    have hqi : (q : Int) ≤ (t.size : Int) := by omega
    go_wp2_with fail
    go_ret
    exact ⟨t.extract 0 q, by rw [ByteArray.size_extract]; omega, rfl, HB5.out⟩
end Go.Proofs.Ythhibeepfecmdaa
