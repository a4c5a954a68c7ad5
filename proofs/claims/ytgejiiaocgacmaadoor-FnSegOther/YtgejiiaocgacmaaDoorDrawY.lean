/- The contracts of spec.l14Spoil and spec.l15Turn (DrawX's, apart from the code blocks). -/
import Derived.Test.YtgejiiaocgacmaaDoorDrawT
import Derived.Test.YtgejiiaocgacmaaDoorTurn
import Derived.Test.YtgejiiaocgacmaaDoorHeap
namespace Go.Proofs.YtgejiiaocgacmaaDoor
open Go.ChangeShapes Go.WideShapes Go.ChangeAt Go.RowKit
set_option linter.unusedVariables false
theorem cellsLink : (Tryd.prog.info? 170).map (·.size) = some 2 := by kernel_rfl
theorem onlyB {g : Nat} {w w' : World} (h : Below w.heap.size w w') : Only g w w' := ⟨h.os, h.tape, h.output, h.size, fun k hk _ => h.block k hk⟩
set_option maxRecDepth 100000 in
set_option maxHeartbeats 2000000 in
theorem l14Spoil_any (s : ByteArray) (n : Nat) (w : World) (h1 : 1 ≤ s.size) (hs : s.size ≤ 1000000) (hn : n ≤ 100000000) :
    Calls Tryd.prog 132 #[.string s, .int .i64 (n : Int)] w fun e w' => ∃ u : ByteArray, u.size = s.size ∧ e = .returned (.agg #[.string u, .bool true]) ∧ Below w.heap.size w w' := by
  have HB0 : Hid (Below w.heap.size w (w.alloc (.cells #[.string ⟨#[]⟩, .bool false] 170))) := (Below.refl _ _).alloc (Nat.le_refl _) _
  have HG0 : Hid ((w.alloc (.cells #[.string ⟨#[]⟩, .bool false] 170)).heap[w.heap.size]? = some (.cells #[.string ⟨#[]⟩, .bool false] 170)) := get_new rfl
  obtain ⟨cap', W, hcv, hcell, hfz, hbW, hgW⟩ := bytes_new s (w.alloc (.cells #[.string ⟨#[]⟩, .bool false] 170))
  simp only [World.size_alloc] at hcv hcell hfz hgW
  obtain ⟨k, hk⟩ : ∃ k, k = n % 4096 % s.size := ⟨_, rfl⟩
  have hks : k < s.size := by rw [hk]; exact Nat.mod_lt _ (by omega)
  have e1 : True → (n : Int) % 4096 % (s.size : Int) = (k : Int) := fun _ => by rw [hk]; simp
  have hne0 : ((s.size : Int) == 0) = false := by rw [beq_eq_false_iff_ne]; omega
  have hki : (k : Int) < (s.size : Int) := by omega
  have hkc := hcell _ hks
  have hkf := hfz _ hks
  have hbl := byteAt_lt s k
  have hxo : bits .xor .u8 ((byteAt s k : Nat) : Int) (1 + (n : Int) / 4096 % 127) = ((byteAt s k ^^^ (1 + n / 4096 % 127) : Nat) : Int) := by
    rw [show 1 + (n : Int) / 4096 % 127 = ((1 + n / 4096 % 127 : Nat) : Int) from by omega, u8_xor_nat _ _ (by omega) (by omega)]
  have hvl : byteAt s k ^^^ (1 + n / 4096 % 127) < 256 := Nat.xor_lt_two_pow (n := 8) hbl (by omega)
  have hct := bytes_turned s W (w.heap.size + 1) cap' k _ hcell hks hvl
  have HU : Hid ((setB s k (byteAt s k ^^^ (1 + n / 4096 % 127))).size = s.size) := setB_size _ _ _
  generalize setB s k (byteAt s k ^^^ (1 + n / 4096 % 127)) = u at *
  generalize byteAt s k ^^^ (1 + n / 4096 % 127) = v at hxo hct hvl
  have hG : W.heap[w.heap.size]? = some (.cells #[.string ⟨#[]⟩, .bool false] 170) := get_below hbW HG0.out (by simp)
  have HG : Hid ((W.setCell ⟨w.heap.size + 1, k, none⟩ (.int .u8 (v : Int))).heap[w.heap.size]? = some (.cells #[.string ⟨#[]⟩, .bool false] 170)) := get_set_ne hG (by omega)
  have HB : Hid (Below w.heap.size w (W.setCell ⟨w.heap.size + 1, k, none⟩ (.int .u8 (v : Int)))) := belowS (HB0.out.trans (hbW.mono HB0.out.size)) (by omega)
  have hr0 : W.cell? ⟨w.heap.size, 0, none⟩ = some (.string ⟨#[]⟩) := cell_get hG rfl
  have hr1 : W.cell? ⟨w.heap.size, 1, none⟩ = some (.bool false) := cell_get hG rfl
  have hrf : ∀ j, W.frozen? ⟨w.heap.size, j, none⟩ = false := fun j => frozen_get hG
  clear hcell hfz hbW hk hG
  go_enter Tryd.func132, Tryd.ntmps132
  go_wp2_with fail
  refine bodyPost_ret (v := .agg #[.string u, .bool true]) (results_cell_row Tryd.results132 _ _ (w.heap.size) 170 #[.string u, .bool true] (0, 0) _ rfl ?_ Tryd.underlying170 rfl cellsLink) rfl ⟨u, HU.out, rfl, ?_⟩
  · exact get_set (get_set HG.out rfl) rfl
  · exact belowS (belowS HB.out (Nat.le_refl _)) (Nat.le_refl _)
theorem field_link (u : ByteArray) (b : Bool) (w : World) : Sem.run Tryd.prog (Instr.field 170 (.agg #[.string u, .bool b]) 0) w = .ok (.string u) w := by kernel_rfl
set_option maxRecDepth 100000 in
set_option maxHeartbeats 2000000 in
theorem l15Turn_any (N g : Nat) (s : ByteArray) (w : World) (hN : N ≤ 536870912) (hs : s.size ≤ 1000000) (hr : Rd N w g) :
    Calls Tryd.prog 104 #[.pointer (some ⟨g, 0, none⟩), .string s] w fun e w' => ∃ u : ByteArray, u.size = s.size ∧ e = .returned (.string u) ∧ Only g w w' ∧ Rd (N + 3) w' g := by
  have HR : Hid _ := hr
  clear hr
  cases he : s.toList.isEmpty
  · have h1 : 1 ≤ s.size := by
      rcases Nat.eq_zero_or_pos s.size with h0 | h0
      · have hl : s.data.toList.length = 0 := by simpa using h0
        rw [ByteArray.toList_eq, List.length_eq_zero_iff.1 hl] at he
        simp at he
      · exact h0
    go_enter Tryd.func104, Tryd.ntmps104
    go_wp2_with fail
    refine (pickI N g _ _ (by omega) (by omega) (by omega) HR.out).mono ?_
    rintro e w1 ⟨p1, hp1, rfl, ho1, hr1⟩
    have HO1 : Hid _ := ho1
    have HR1 : Hid _ := hr1
    clear ho1 hr1
    go_wp2_with fail
    refine (pickI (N + 1) g _ _ (by omega) (by omega) (by omega) HR1.out).mono ?_
    rintro e w2 ⟨p2, hp2, rfl, ho2, hr2⟩
    have HO2 : Hid (Only g w w2) := HO1.out.trans ho2
    have HR2 : Hid _ := hr2
    clear ho2 hr2
    go_wp2_with fail
    refine (pickI (N + 1 + 1) g _ _ (by omega) (by omega) (by omega) HR2.out).mono ?_
    rintro e w3 ⟨p3, hp3, rfl, ho3, hr3⟩
    have HO3 : Hid (Only g w w3) := HO2.out.trans ho3
    have HR3 : Hid (Rd (N + 3) w3 g) := hr3
    clear ho3 hr3
    have HSP : Hid (Calls Tryd.prog 132 #[.string s, .int .i64 ((p1 : Int) + (p2 : Int) * 256 + (p3 : Int) * 4096)] w3 fun e w' => ∃ u : ByteArray, u.size = s.size ∧ e = .returned (.agg #[.string u, .bool true]) ∧ Below w3.heap.size w3 w') := by
      have := l14Spoil_any s (p1 + p2 * 256 + p3 * 4096) w3 h1 hs (by omega)
      rw [show ((p1 + p2 * 256 + p3 * 4096 : Nat) : Int) = (p1 : Int) + (p2 : Int) * 256 + (p3 : Int) * 4096 from by omega] at this
      exact this
    go_wp2_with fail
    refine HSP.out.mono ?_
    rintro e w4 ⟨u, hu, rfl, hb4⟩
    have HO4 : Hid (Only g w w4) := HO3.out.trans (onlyB hb4)
    have HR4 : Hid (Rd (N + 3) w4 g) := HR3.out.below hb4
    have HU : Hid _ := hu
    clear hb4 hu
    have hfl := field_link u true w4
    go_wp2_with fail
    go_ret
    exact ⟨u, HU.out, rfl, HO4.out, HR4.out⟩
  · go_enter Tryd.func104, Tryd.ntmps104
    go_wp2_with fail
    go_ret
    exact ⟨s, rfl, rfl, Only.refl _ _, Rd.mono HR.out (by omega)⟩
end Go.Proofs.YtgejiiaocgacmaaDoor
