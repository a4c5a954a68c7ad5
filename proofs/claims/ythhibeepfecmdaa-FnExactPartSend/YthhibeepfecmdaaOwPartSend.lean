/- Proved: laws.FnExactPartSend returns true at every part and value (impl.PartSend answers as spec.PartSend, writes nothing into what it is given, and its answer owns its memory), and leaves all as it was. No condition. -/
import Derived.Test.YthhibeepfecmdaaSmPart
import Derived.Test.YthhibeepfecmdaaMkOp
import Derived.Test.YthhibeepfecmdaaMkInt
import Derived.Test.YthhibeepfecmdaaOgPart
import Derived.Test.YthhibeepfecmdaaKeep
import Derived.Test.YthhibeepfecmdaaCellsN
import Derived.Test.YthhibeepfecmdaaFrame
import Derived.Deep.RegionHeld2
namespace Go.Proofs.Ythhibeepfecmdaa
open Go.ChangeShapes Go.WideShapes Go.ChangeAt Go.RowKit
set_option linter.unusedVariables false

open Go.ChangeMaps (open_string shut_string)
set_option maxRecDepth 100000 in
set_option maxHeartbeats 16000000 in
theorem FnExactPartSend_ow (y0a0 : Option Addr) (y0n0 y0p0 : Nat) (y0g0_0 : Nat → Int) (y0g0_1 : Nat → Int) (y0g0_2 : Nat → Int) (y0a1 : Option Addr) (y0n1 y0p1 : Nat) (y0g1 : Nat → Int) (y0v2 : Int) (y0v3 : Bool) (y0a4 : Option Addr) (y0n4 y0p4 : Nat) (y0g4 : Nat → Int) (y1v0 : Int) (d0n0 : Nat) (d0g0_0 : Nat → Int) (d0g0_1 : Nat → Int) (d0g0_2 : Nat → Int) (d0n1 : Nat) (d0g1 : Nat → Int) (d0v2 : Int) (d0v3 : Bool) (d0n4 : Nat) (d0g4 : Nat → Int) (d1v0 : Bool) (w : World) (hxy0_0 : y0n0 ≤ maxLen) (hty0_0 : OpS w y0a0 y0n0 y0g0_0 y0g0_1 y0g0_2) (hxy0_1 : y0n1 ≤ maxLen) (hty0_1 : IntS w y0a1 y0n1 y0g1) (hxy0_4 : y0n4 ≤ maxLen) (hty0_4 : IntS w y0a4 y0n4 y0g4) (hdd0_0 : d0n0 ≤ 2097152) (hdd0_1 : d0n1 ≤ 2097152) (hdd0_4 : d0n4 ≤ 2097152)
    (HSP : Hid (∀ (cy0_0 : Nat) (cy0_1 : Nat) (cy0_4 : Nat) (W : World), y0n0 ≤ 1048576 → y0n1 ≤ 1048576 → y0n4 ≤ 1048576 → OpS W (some ⟨cy0_0, 0, none⟩) y0n0 y0g0_0 y0g0_1 y0g0_2 → IntS W (some ⟨cy0_1, 0, none⟩) y0n1 y0g1 → IntS W (some ⟨cy0_4, 0, none⟩) y0n4 y0g4 →  Calls Try.prog 58 #[.agg #[.slice (some ⟨cy0_0, 0, none⟩) y0n0 y0n0, .slice (some ⟨cy0_1, 0, none⟩) y0n1 y0n1, .int .i64 y0v2, .bool y0v3, .slice (some ⟨cy0_4, 0, none⟩) y0n4 y0n4], .int .i64 y1v0] W fun e w' => ∃ (sad0_0 : Option Addr) (spd0_0 : Nat) (sad0_1 : Option Addr) (spd0_1 : Nat) (sad0_4 : Option Addr) (spd0_4 : Nat), e = .returned (.tuple #[.agg #[.slice sad0_0 d0n0 spd0_0, .slice sad0_1 d0n1 spd0_1, .int .i64 d0v2, .bool d0v3, .slice sad0_4 d0n4 spd0_4], .bool d1v0]) ∧ (OpS w' sad0_0 d0n0 d0g0_0 d0g0_1 d0g0_2 ∧ IntS w' sad0_1 d0n1 d0g1 ∧ IntS w' sad0_4 d0n4 d0g4) ∧ Below W.heap.size W w'))
    (HIM : Hid (∀ (cy0_0 : Nat) (cy0_1 : Nat) (cy0_4 : Nat) (W : World), y0n0 ≤ 1048576 → y0n1 ≤ 1048576 → y0n4 ≤ 1048576 → OpS W (some ⟨cy0_0, 0, none⟩) y0n0 y0g0_0 y0g0_1 y0g0_2 → IntS W (some ⟨cy0_1, 0, none⟩) y0n1 y0g1 → IntS W (some ⟨cy0_4, 0, none⟩) y0n4 y0g4 →  Calls Try.prog 59 #[.agg #[.slice (some ⟨cy0_0, 0, none⟩) y0n0 y0n0, .slice (some ⟨cy0_1, 0, none⟩) y0n1 y0n1, .int .i64 y0v2, .bool y0v3, .slice (some ⟨cy0_4, 0, none⟩) y0n4 y0n4], .int .i64 y1v0] W fun e w' => ∃ (gad0_0 : Option Addr) (gpd0_0 : Nat) (gxd0_0 : Nat) (gad0_1 : Option Addr) (gpd0_1 : Nat) (gxd0_1 : Nat) (gad0_4 : Option Addr) (gpd0_4 : Nat) (gxd0_4 : Nat), e = .returned (.tuple #[.agg #[.slice gad0_0 d0n0 gpd0_0, .slice gad0_1 d0n1 gpd0_1, .int .i64 d0v2, .bool d0v3, .slice gad0_4 d0n4 gpd0_4], .bool d1v0]) ∧ (OpS w' gad0_0 d0n0 d0g0_0 d0g0_1 d0g0_2 ∧ IntS w' gad0_1 d0n1 d0g1 ∧ IntS w' gad0_4 d0n4 d0g4 ∧ In gxd0_0 gad0_0 d0n0 ∧ (d0n0 ≠ 0 → W.heap.size ≤ gxd0_0 ∧ gxd0_0 < w'.heap.size) ∧ (d0n0 ≠ 0 → Free w' gxd0_0) ∧ In gxd0_1 gad0_1 d0n1 ∧ (d0n1 ≠ 0 → W.heap.size ≤ gxd0_1 ∧ gxd0_1 < w'.heap.size) ∧ (d0n1 ≠ 0 → Free w' gxd0_1) ∧ In gxd0_4 gad0_4 d0n4 ∧ (d0n4 ≠ 0 → W.heap.size ≤ gxd0_4 ∧ gxd0_4 < w'.heap.size) ∧ (d0n4 ≠ 0 → Free w' gxd0_4) ∧ (d0n0 ≠ 0 → d0n1 ≠ 0 → gxd0_0 ≠ gxd0_1) ∧ (d0n0 ≠ 0 → d0n4 ≠ 0 → gxd0_0 ≠ gxd0_4) ∧ (d0n1 ≠ 0 → d0n4 ≠ 0 → gxd0_1 ≠ gxd0_4)) ∧ Below W.heap.size W w')) :
    Calls Try.prog 13 #[.agg #[.slice y0a0 y0n0 y0p0, .slice y0a1 y0n1 y0p1, .int .i64 y0v2, .bool y0v3, .slice y0a4 y0n4 y0p4], .int .i64 y1v0] w fun e w' => e = .returned (.bool true) ∧ Below w.heap.size w w' := by
  have hs_0 : w.heap.size ≤ (w.alloc (.cells #[.slice y0a0 y0n0 y0p0, .slice y0a1 y0n1 y0p1, .int .i64 y0v2, .bool y0v3, .slice y0a4 y0n4 y0p4] 80)).heap.size := by simp
  have B_0 : Hid (Below w.heap.size w (w.alloc (.cells #[.slice y0a0 y0n0 y0p0, .slice y0a1 y0n1 y0p1, .int .i64 y0v2, .bool y0v3, .slice y0a4 y0n4 y0p4] 80))) := (((Below.refl _ _)).alloc (Nat.le_refl _) _)
  have A0_0 : Hid ((w.alloc (.cells #[.slice y0a0 y0n0 y0p0, .slice y0a1 y0n1 y0p1, .int .i64 y0v2, .bool y0v3, .slice y0a4 y0n4 y0p4] 80)).heap[w.heap.size]? = some (.cells #[.slice y0a0 y0n0 y0p0, .slice y0a1 y0n1 y0p1, .int .i64 y0v2, .bool y0v3, .slice y0a4 y0n4 y0p4] 80)) := get_new (by simp)
  have HAy0_0 : Hid (OpS w y0a0 y0n0 y0g0_0 y0g0_1 y0g0_2) := hty0_0
  have HAy0_1 : Hid (IntS w y0a1 y0n1 y0g1) := hty0_1
  have HAy0_4 : Hid (IntS w y0a4 y0n4 y0g4) := hty0_4
  clear hty0_0 hty0_1 hty0_4
  go_enter Try.func13, Try.ntmps13
  go_wp2_with fail
  refine (szPartl_any y0a0 y0n0 y0p0 y0g0_0 y0g0_1 y0g0_2 y0a1 y0n1 y0p1 y0g1 y0v2 y0v3 y0a4 y0n4 y0p4 y0g4 1048576 _ hxy0_0 hxy0_1 hxy0_4 (HAy0_0.out.below B_0.out) (HAy0_1.out.below B_0.out) (HAy0_4.out.below B_0.out) (by omega) (by omega)).mono ?_
  rintro e w1 ⟨r0, hr0, hs0', rfl, hb⟩
  have hs_1 : (w.alloc (.cells #[.slice y0a0 y0n0 y0p0, .slice y0a1 y0n1 y0p1, .int .i64 y0v2, .bool y0v3, .slice y0a4 y0n4 y0p4] 80)).heap.size ≤ w1.heap.size := hb.size
  have B_1 : Hid (Below w.heap.size w w1) := B_0.out.trans (hb.mono B_0.out.size)
  have A0_1 : Hid (w1.heap[w.heap.size]? = some (.cells #[.slice y0a0 y0n0 y0p0, .slice y0a1 y0n1 y0p1, .int .i64 y0v2, .bool y0v3, .slice y0a4 y0n4 y0p4] 80)) := get_below hb A0_0.out (size_of_get A0_0.out)
  clear hb
  have HR0 : Hid _ := hr0
  clear hr0
  by_cases hneg0 : r0 < 0
  · go_wp2_with fail
    go_ret
    exact ⟨rfl, B_1.out⟩
  have hpos0 : 0 ≤ r0 := by omega
  have hms := HR0.out hpos0
  obtain ⟨hmy0_0, hmy0_1, hmy0_4⟩ := hms
  obtain ⟨qA0_0, qA0_1, qA0_2, qA0_3, qA0_4⟩ := cells5_of A0_1.out
  have qzA0 : w.heap.size < w1.heap.size := size_of_get A0_1.out
  go_wp2_with fail
  clear qA0_0 qA0_1 qA0_2 qA0_3 qA0_4 qzA0
  refine (toPart_anyf y0a0 y0n0 y0p0 y0g0_0 y0g0_1 y0g0_2 y0a1 y0n1 y0p1 y0g1 y0v2 y0v3 y0a4 y0n4 y0p4 y0g4 _ hmy0_0 hmy0_1 hmy0_4 (HAy0_0.out.below B_1.out) (HAy0_1.out.below B_1.out) (HAy0_4.out.below B_1.out)).mono ?_
  rintro e w2 ⟨cy0_0, cy0_1, cy0_4, hord, rfl, ⟨hty0_0, hty0_1, hty0_4, hfzy0_0, hfzy0_1, hfzy0_4⟩, hb⟩
  have hs_2 : w1.heap.size ≤ w2.heap.size := hb.size
  have B_2 : Hid (Below w.heap.size w w2) := B_1.out.trans (hb.mono B_1.out.size)
  have A0_2 : Hid (w2.heap[w.heap.size]? = some (.cells #[.slice y0a0 y0n0 y0p0, .slice y0a1 y0n1 y0p1, .int .i64 y0v2, .bool y0v3, .slice y0a4 y0n4 y0p4] 80)) := get_below hb A0_1.out (size_of_get A0_1.out)
  have hoc0 := hord
  clear hord hb
  have cy0_0_2 : Hid (OpS w2 (some ⟨cy0_0, 0, none⟩) y0n0 y0g0_0 y0g0_1 y0g0_2) := hty0_0
  have lxcy0_0 : y0n0 ≠ 0 → w.heap.size ≤ cy0_0 ∧ cy0_0 < w2.heap.size := fun _ => by have := (B_2.out).size; have := (hoc0); omega
  have cy0_1_2 : Hid (IntS w2 (some ⟨cy0_1, 0, none⟩) y0n1 y0g1) := hty0_1
  have lxcy0_1 : y0n1 ≠ 0 → w.heap.size ≤ cy0_1 ∧ cy0_1 < w2.heap.size := fun _ => by have := (B_2.out).size; have := (hoc0); omega
  have cy0_4_2 : Hid (IntS w2 (some ⟨cy0_4, 0, none⟩) y0n4 y0g4) := hty0_4
  have lxcy0_4 : y0n4 ≠ 0 → w.heap.size ≤ cy0_4 ∧ cy0_4 < w2.heap.size := fun _ => by have := (B_2.out).size; have := (hoc0); omega
  clear hfzy0_0 hfzy0_1 hfzy0_4
  clear hty0_0 hty0_1 hty0_4
  obtain ⟨qA0_0, qA0_1, qA0_2, qA0_3, qA0_4⟩ := cells5_of A0_2.out
  have qzA0 : w.heap.size < w2.heap.size := size_of_get A0_2.out
  go_wp2_with fail
  clear qA0_0 qA0_1 qA0_2 qA0_3 qA0_4 qzA0
  refine (HSP.out cy0_0 cy0_1 cy0_4 _ hmy0_0 hmy0_1 hmy0_4 cy0_0_2.out cy0_1_2.out cy0_4_2.out).mono ?_
  rintro e w3 ⟨sad0_0, spd0_0, sad0_1, spd0_1, sad0_4, spd0_4, rfl, ⟨hqd0_0, hqd0_1, hqd0_4⟩, hb⟩
  have hs_3 : w2.heap.size ≤ w3.heap.size := hb.size
  have B_3 : Hid (Below w.heap.size w w3) := B_2.out.trans (hb.mono B_2.out.size)
  have A0_3 : Hid (w3.heap[w.heap.size]? = some (.cells #[.slice y0a0 y0n0 y0p0, .slice y0a1 y0n1 y0p1, .int .i64 y0v2, .bool y0v3, .slice y0a4 y0n4 y0p4] 80)) := get_below hb A0_2.out (size_of_get A0_2.out)
  clear hb
  obtain ⟨sxd0_0, hsid0_0, hsld0_0⟩ := hqd0_0.inn
  have sd0_0_3 : Hid (OpS w3 sad0_0 d0n0 d0g0_0 d0g0_1 d0g0_2) := hqd0_0
  clear hqd0_0
  obtain ⟨sxd0_1, hsid0_1, hsld0_1⟩ := hqd0_1.inn
  have sd0_1_3 : Hid (IntS w3 sad0_1 d0n1 d0g1) := hqd0_1
  clear hqd0_1
  obtain ⟨sxd0_4, hsid0_4, hsld0_4⟩ := hqd0_4.inn
  have sd0_4_3 : Hid (IntS w3 sad0_4 d0n4 d0g4) := hqd0_4
  clear hqd0_4
  have hs_4 : w3.heap.size ≤ (w3.alloc (.cells #[.slice sad0_0 d0n0 spd0_0, .slice sad0_1 d0n1 spd0_1, .int .i64 d0v2, .bool d0v3, .slice sad0_4 d0n4 spd0_4] 84)).heap.size := ((Below.refl _ _).alloc (Nat.le_refl _) _ : Below w3.heap.size w3 (w3.alloc (.cells #[.slice sad0_0 d0n0 spd0_0, .slice sad0_1 d0n1 spd0_1, .int .i64 d0v2, .bool d0v3, .slice sad0_4 d0n4 spd0_4] 84))).size
  have B_4 : Hid (Below w.heap.size w (w3.alloc (.cells #[.slice sad0_0 d0n0 spd0_0, .slice sad0_1 d0n1 spd0_1, .int .i64 d0v2, .bool d0v3, .slice sad0_4 d0n4 spd0_4] 84))) := B_3.out.trans (((Below.refl _ _).alloc (Nat.le_refl _) _ : Below w3.heap.size w3 (w3.alloc (.cells #[.slice sad0_0 d0n0 spd0_0, .slice sad0_1 d0n1 spd0_1, .int .i64 d0v2, .bool d0v3, .slice sad0_4 d0n4 spd0_4] 84))).mono B_3.out.size)
  have A0_4 : Hid ((w3.alloc (.cells #[.slice sad0_0 d0n0 spd0_0, .slice sad0_1 d0n1 spd0_1, .int .i64 d0v2, .bool d0v3, .slice sad0_4 d0n4 spd0_4] 84)).heap[w.heap.size]? = some (.cells #[.slice y0a0 y0n0 y0p0, .slice y0a1 y0n1 y0p1, .int .i64 y0v2, .bool y0v3, .slice y0a4 y0n4 y0p4] 80)) := get_below ((Below.refl _ _).alloc (Nat.le_refl _) _ : Below w3.heap.size w3 (w3.alloc (.cells #[.slice sad0_0 d0n0 spd0_0, .slice sad0_1 d0n1 spd0_1, .int .i64 d0v2, .bool d0v3, .slice sad0_4 d0n4 spd0_4] 84))) A0_3.out (size_of_get A0_3.out)
  have sd0_0_4 : Hid (OpS (w3.alloc (.cells #[.slice sad0_0 d0n0 spd0_0, .slice sad0_1 d0n1 spd0_1, .int .i64 d0v2, .bool d0v3, .slice sad0_4 d0n4 spd0_4] 84)) sad0_0 d0n0 d0g0_0 d0g0_1 d0g0_2) := sd0_0_3.out.below ((Below.refl _ _).alloc (Nat.le_refl _) _ : Below w3.heap.size w3 (w3.alloc (.cells #[.slice sad0_0 d0n0 spd0_0, .slice sad0_1 d0n1 spd0_1, .int .i64 d0v2, .bool d0v3, .slice sad0_4 d0n4 spd0_4] 84)))
  have sd0_1_4 : Hid (IntS (w3.alloc (.cells #[.slice sad0_0 d0n0 spd0_0, .slice sad0_1 d0n1 spd0_1, .int .i64 d0v2, .bool d0v3, .slice sad0_4 d0n4 spd0_4] 84)) sad0_1 d0n1 d0g1) := sd0_1_3.out.below ((Below.refl _ _).alloc (Nat.le_refl _) _ : Below w3.heap.size w3 (w3.alloc (.cells #[.slice sad0_0 d0n0 spd0_0, .slice sad0_1 d0n1 spd0_1, .int .i64 d0v2, .bool d0v3, .slice sad0_4 d0n4 spd0_4] 84)))
  have sd0_4_4 : Hid (IntS (w3.alloc (.cells #[.slice sad0_0 d0n0 spd0_0, .slice sad0_1 d0n1 spd0_1, .int .i64 d0v2, .bool d0v3, .slice sad0_4 d0n4 spd0_4] 84)) sad0_4 d0n4 d0g4) := sd0_4_3.out.below ((Below.refl _ _).alloc (Nat.le_refl _) _ : Below w3.heap.size w3 (w3.alloc (.cells #[.slice sad0_0 d0n0 spd0_0, .slice sad0_1 d0n1 spd0_1, .int .i64 d0v2, .bool d0v3, .slice sad0_4 d0n4 spd0_4] 84)))
  have sR0_4 : Hid ((w3.alloc (.cells #[.slice sad0_0 d0n0 spd0_0, .slice sad0_1 d0n1 spd0_1, .int .i64 d0v2, .bool d0v3, .slice sad0_4 d0n4 spd0_4] 84)).heap[w3.heap.size]? = some (.cells #[.slice sad0_0 d0n0 spd0_0, .slice sad0_1 d0n1 spd0_1, .int .i64 d0v2, .bool d0v3, .slice sad0_4 d0n4 spd0_4] 84)) := get_new rfl
  have hz_4 : w3.heap.size < (w3.alloc (.cells #[.slice sad0_0 d0n0 spd0_0, .slice sad0_1 d0n1 spd0_1, .int .i64 d0v2, .bool d0v3, .slice sad0_4 d0n4 spd0_4] 84)).heap.size := by simp
  obtain ⟨qA0_0, qA0_1, qA0_2, qA0_3, qA0_4⟩ := cells5_of A0_3.out
  have qzA0 : w.heap.size < w3.heap.size := size_of_get A0_3.out
  go_wp2_with fail
  clear qA0_0 qA0_1 qA0_2 qA0_3 qA0_4 qzA0
  generalize (w3.alloc (.cells #[.slice sad0_0 d0n0 spd0_0, .slice sad0_1 d0n1 spd0_1, .int .i64 d0v2, .bool d0v3, .slice sad0_4 d0n4 spd0_4] 84)) = w4 at *
  refine (toPart_anyf y0a0 y0n0 y0p0 y0g0_0 y0g0_1 y0g0_2 y0a1 y0n1 y0p1 y0g1 y0v2 y0v3 y0a4 y0n4 y0p4 y0g4 _ hmy0_0 hmy0_1 hmy0_4 (HAy0_0.out.below B_4.out) (HAy0_1.out.below B_4.out) (HAy0_4.out.below B_4.out)).mono ?_
  rintro e w5 ⟨xy0_0, xy0_1, xy0_4, hord, rfl, ⟨hty0_0, hty0_1, hty0_4, hfzy0_0, hfzy0_1, hfzy0_4⟩, hb⟩
  have hs_5 : w4.heap.size ≤ w5.heap.size := hb.size
  have B_5 : Hid (Below w.heap.size w w5) := B_4.out.trans (hb.mono B_4.out.size)
  have A0_5 : Hid (w5.heap[w.heap.size]? = some (.cells #[.slice y0a0 y0n0 y0p0, .slice y0a1 y0n1 y0p1, .int .i64 y0v2, .bool y0v3, .slice y0a4 y0n4 y0p4] 80)) := get_below hb A0_4.out (size_of_get A0_4.out)
  have sd0_0_5 : Hid (OpS w5 sad0_0 d0n0 d0g0_0 d0g0_1 d0g0_2) := sd0_0_4.out.below hb
  have sd0_1_5 : Hid (IntS w5 sad0_1 d0n1 d0g1) := sd0_1_4.out.below hb
  have sd0_4_5 : Hid (IntS w5 sad0_4 d0n4 d0g4) := sd0_4_4.out.below hb
  have sR0_5 : Hid (w5.heap[w3.heap.size]? = some (.cells #[.slice sad0_0 d0n0 spd0_0, .slice sad0_1 d0n1 spd0_1, .int .i64 d0v2, .bool d0v3, .slice sad0_4 d0n4 spd0_4] 84)) := get_below hb sR0_4.out (size_of_get sR0_4.out)
  have hox0 := hord
  clear hord hb
  have xy0_0_5 : Hid (OpS w5 (some ⟨xy0_0, 0, none⟩) y0n0 y0g0_0 y0g0_1 y0g0_2) := hty0_0
  have lxxy0_0 : y0n0 ≠ 0 → w.heap.size ≤ xy0_0 ∧ xy0_0 < w5.heap.size := fun _ => by have := (B_5.out).size; have := (hox0); omega
  have xy0_1_5 : Hid (IntS w5 (some ⟨xy0_1, 0, none⟩) y0n1 y0g1) := hty0_1
  have lxxy0_1 : y0n1 ≠ 0 → w.heap.size ≤ xy0_1 ∧ xy0_1 < w5.heap.size := fun _ => by have := (B_5.out).size; have := (hox0); omega
  have xy0_4_5 : Hid (IntS w5 (some ⟨xy0_4, 0, none⟩) y0n4 y0g4) := hty0_4
  have lxxy0_4 : y0n4 ≠ 0 → w.heap.size ≤ xy0_4 ∧ xy0_4 < w5.heap.size := fun _ => by have := (B_5.out).size; have := (hox0); omega
  have xFy0_0_5 : Hid (y0n0 ≠ 0 → Free w5 xy0_0) := fun _ => hfzy0_0
  have xFy0_1_5 : Hid (y0n1 ≠ 0 → Free w5 xy0_1) := fun _ => hfzy0_1
  have xFy0_4_5 : Hid (y0n4 ≠ 0 → Free w5 xy0_4) := fun _ => hfzy0_4
  clear hfzy0_0 hfzy0_1 hfzy0_4
  clear hty0_0 hty0_1 hty0_4
  have hs_6 : w5.heap.size ≤ (w5.alloc (.cells #[.slice (some ⟨xy0_0, 0, none⟩) y0n0 y0n0, .slice (some ⟨xy0_1, 0, none⟩) y0n1 y0n1, .int .i64 y0v2, .bool y0v3, .slice (some ⟨xy0_4, 0, none⟩) y0n4 y0n4] 84)).heap.size := ((Below.refl _ _).alloc (Nat.le_refl _) _ : Below w5.heap.size w5 (w5.alloc (.cells #[.slice (some ⟨xy0_0, 0, none⟩) y0n0 y0n0, .slice (some ⟨xy0_1, 0, none⟩) y0n1 y0n1, .int .i64 y0v2, .bool y0v3, .slice (some ⟨xy0_4, 0, none⟩) y0n4 y0n4] 84))).size
  have B_6 : Hid (Below w.heap.size w (w5.alloc (.cells #[.slice (some ⟨xy0_0, 0, none⟩) y0n0 y0n0, .slice (some ⟨xy0_1, 0, none⟩) y0n1 y0n1, .int .i64 y0v2, .bool y0v3, .slice (some ⟨xy0_4, 0, none⟩) y0n4 y0n4] 84))) := B_5.out.trans (((Below.refl _ _).alloc (Nat.le_refl _) _ : Below w5.heap.size w5 (w5.alloc (.cells #[.slice (some ⟨xy0_0, 0, none⟩) y0n0 y0n0, .slice (some ⟨xy0_1, 0, none⟩) y0n1 y0n1, .int .i64 y0v2, .bool y0v3, .slice (some ⟨xy0_4, 0, none⟩) y0n4 y0n4] 84))).mono B_5.out.size)
  have A0_6 : Hid ((w5.alloc (.cells #[.slice (some ⟨xy0_0, 0, none⟩) y0n0 y0n0, .slice (some ⟨xy0_1, 0, none⟩) y0n1 y0n1, .int .i64 y0v2, .bool y0v3, .slice (some ⟨xy0_4, 0, none⟩) y0n4 y0n4] 84)).heap[w.heap.size]? = some (.cells #[.slice y0a0 y0n0 y0p0, .slice y0a1 y0n1 y0p1, .int .i64 y0v2, .bool y0v3, .slice y0a4 y0n4 y0p4] 80)) := get_below ((Below.refl _ _).alloc (Nat.le_refl _) _ : Below w5.heap.size w5 (w5.alloc (.cells #[.slice (some ⟨xy0_0, 0, none⟩) y0n0 y0n0, .slice (some ⟨xy0_1, 0, none⟩) y0n1 y0n1, .int .i64 y0v2, .bool y0v3, .slice (some ⟨xy0_4, 0, none⟩) y0n4 y0n4] 84))) A0_5.out (size_of_get A0_5.out)
  have sd0_0_6 : Hid (OpS (w5.alloc (.cells #[.slice (some ⟨xy0_0, 0, none⟩) y0n0 y0n0, .slice (some ⟨xy0_1, 0, none⟩) y0n1 y0n1, .int .i64 y0v2, .bool y0v3, .slice (some ⟨xy0_4, 0, none⟩) y0n4 y0n4] 84)) sad0_0 d0n0 d0g0_0 d0g0_1 d0g0_2) := sd0_0_5.out.below ((Below.refl _ _).alloc (Nat.le_refl _) _ : Below w5.heap.size w5 (w5.alloc (.cells #[.slice (some ⟨xy0_0, 0, none⟩) y0n0 y0n0, .slice (some ⟨xy0_1, 0, none⟩) y0n1 y0n1, .int .i64 y0v2, .bool y0v3, .slice (some ⟨xy0_4, 0, none⟩) y0n4 y0n4] 84)))
  have sd0_1_6 : Hid (IntS (w5.alloc (.cells #[.slice (some ⟨xy0_0, 0, none⟩) y0n0 y0n0, .slice (some ⟨xy0_1, 0, none⟩) y0n1 y0n1, .int .i64 y0v2, .bool y0v3, .slice (some ⟨xy0_4, 0, none⟩) y0n4 y0n4] 84)) sad0_1 d0n1 d0g1) := sd0_1_5.out.below ((Below.refl _ _).alloc (Nat.le_refl _) _ : Below w5.heap.size w5 (w5.alloc (.cells #[.slice (some ⟨xy0_0, 0, none⟩) y0n0 y0n0, .slice (some ⟨xy0_1, 0, none⟩) y0n1 y0n1, .int .i64 y0v2, .bool y0v3, .slice (some ⟨xy0_4, 0, none⟩) y0n4 y0n4] 84)))
  have sd0_4_6 : Hid (IntS (w5.alloc (.cells #[.slice (some ⟨xy0_0, 0, none⟩) y0n0 y0n0, .slice (some ⟨xy0_1, 0, none⟩) y0n1 y0n1, .int .i64 y0v2, .bool y0v3, .slice (some ⟨xy0_4, 0, none⟩) y0n4 y0n4] 84)) sad0_4 d0n4 d0g4) := sd0_4_5.out.below ((Below.refl _ _).alloc (Nat.le_refl _) _ : Below w5.heap.size w5 (w5.alloc (.cells #[.slice (some ⟨xy0_0, 0, none⟩) y0n0 y0n0, .slice (some ⟨xy0_1, 0, none⟩) y0n1 y0n1, .int .i64 y0v2, .bool y0v3, .slice (some ⟨xy0_4, 0, none⟩) y0n4 y0n4] 84)))
  have sR0_6 : Hid ((w5.alloc (.cells #[.slice (some ⟨xy0_0, 0, none⟩) y0n0 y0n0, .slice (some ⟨xy0_1, 0, none⟩) y0n1 y0n1, .int .i64 y0v2, .bool y0v3, .slice (some ⟨xy0_4, 0, none⟩) y0n4 y0n4] 84)).heap[w3.heap.size]? = some (.cells #[.slice sad0_0 d0n0 spd0_0, .slice sad0_1 d0n1 spd0_1, .int .i64 d0v2, .bool d0v3, .slice sad0_4 d0n4 spd0_4] 84)) := get_below ((Below.refl _ _).alloc (Nat.le_refl _) _ : Below w5.heap.size w5 (w5.alloc (.cells #[.slice (some ⟨xy0_0, 0, none⟩) y0n0 y0n0, .slice (some ⟨xy0_1, 0, none⟩) y0n1 y0n1, .int .i64 y0v2, .bool y0v3, .slice (some ⟨xy0_4, 0, none⟩) y0n4 y0n4] 84))) sR0_5.out (size_of_get sR0_5.out)
  have xy0_0_6 : Hid (OpS (w5.alloc (.cells #[.slice (some ⟨xy0_0, 0, none⟩) y0n0 y0n0, .slice (some ⟨xy0_1, 0, none⟩) y0n1 y0n1, .int .i64 y0v2, .bool y0v3, .slice (some ⟨xy0_4, 0, none⟩) y0n4 y0n4] 84)) (some ⟨xy0_0, 0, none⟩) y0n0 y0g0_0 y0g0_1 y0g0_2) := xy0_0_5.out.below ((Below.refl _ _).alloc (Nat.le_refl _) _ : Below w5.heap.size w5 (w5.alloc (.cells #[.slice (some ⟨xy0_0, 0, none⟩) y0n0 y0n0, .slice (some ⟨xy0_1, 0, none⟩) y0n1 y0n1, .int .i64 y0v2, .bool y0v3, .slice (some ⟨xy0_4, 0, none⟩) y0n4 y0n4] 84)))
  have xy0_1_6 : Hid (IntS (w5.alloc (.cells #[.slice (some ⟨xy0_0, 0, none⟩) y0n0 y0n0, .slice (some ⟨xy0_1, 0, none⟩) y0n1 y0n1, .int .i64 y0v2, .bool y0v3, .slice (some ⟨xy0_4, 0, none⟩) y0n4 y0n4] 84)) (some ⟨xy0_1, 0, none⟩) y0n1 y0g1) := xy0_1_5.out.below ((Below.refl _ _).alloc (Nat.le_refl _) _ : Below w5.heap.size w5 (w5.alloc (.cells #[.slice (some ⟨xy0_0, 0, none⟩) y0n0 y0n0, .slice (some ⟨xy0_1, 0, none⟩) y0n1 y0n1, .int .i64 y0v2, .bool y0v3, .slice (some ⟨xy0_4, 0, none⟩) y0n4 y0n4] 84)))
  have xy0_4_6 : Hid (IntS (w5.alloc (.cells #[.slice (some ⟨xy0_0, 0, none⟩) y0n0 y0n0, .slice (some ⟨xy0_1, 0, none⟩) y0n1 y0n1, .int .i64 y0v2, .bool y0v3, .slice (some ⟨xy0_4, 0, none⟩) y0n4 y0n4] 84)) (some ⟨xy0_4, 0, none⟩) y0n4 y0g4) := xy0_4_5.out.below ((Below.refl _ _).alloc (Nat.le_refl _) _ : Below w5.heap.size w5 (w5.alloc (.cells #[.slice (some ⟨xy0_0, 0, none⟩) y0n0 y0n0, .slice (some ⟨xy0_1, 0, none⟩) y0n1 y0n1, .int .i64 y0v2, .bool y0v3, .slice (some ⟨xy0_4, 0, none⟩) y0n4 y0n4] 84)))
  have xFy0_0_6 : Hid (y0n0 ≠ 0 → Free (w5.alloc (.cells #[.slice (some ⟨xy0_0, 0, none⟩) y0n0 y0n0, .slice (some ⟨xy0_1, 0, none⟩) y0n1 y0n1, .int .i64 y0v2, .bool y0v3, .slice (some ⟨xy0_4, 0, none⟩) y0n4 y0n4] 84)) xy0_0) := fun hn => (xFy0_0_5.out hn).below ((Below.refl _ _).alloc (Nat.le_refl _) _ : Below w5.heap.size w5 (w5.alloc (.cells #[.slice (some ⟨xy0_0, 0, none⟩) y0n0 y0n0, .slice (some ⟨xy0_1, 0, none⟩) y0n1 y0n1, .int .i64 y0v2, .bool y0v3, .slice (some ⟨xy0_4, 0, none⟩) y0n4 y0n4] 84))) (by have := lxxy0_0 hn; omega)
  have xFy0_1_6 : Hid (y0n1 ≠ 0 → Free (w5.alloc (.cells #[.slice (some ⟨xy0_0, 0, none⟩) y0n0 y0n0, .slice (some ⟨xy0_1, 0, none⟩) y0n1 y0n1, .int .i64 y0v2, .bool y0v3, .slice (some ⟨xy0_4, 0, none⟩) y0n4 y0n4] 84)) xy0_1) := fun hn => (xFy0_1_5.out hn).below ((Below.refl _ _).alloc (Nat.le_refl _) _ : Below w5.heap.size w5 (w5.alloc (.cells #[.slice (some ⟨xy0_0, 0, none⟩) y0n0 y0n0, .slice (some ⟨xy0_1, 0, none⟩) y0n1 y0n1, .int .i64 y0v2, .bool y0v3, .slice (some ⟨xy0_4, 0, none⟩) y0n4 y0n4] 84))) (by have := lxxy0_1 hn; omega)
  have xFy0_4_6 : Hid (y0n4 ≠ 0 → Free (w5.alloc (.cells #[.slice (some ⟨xy0_0, 0, none⟩) y0n0 y0n0, .slice (some ⟨xy0_1, 0, none⟩) y0n1 y0n1, .int .i64 y0v2, .bool y0v3, .slice (some ⟨xy0_4, 0, none⟩) y0n4 y0n4] 84)) xy0_4) := fun hn => (xFy0_4_5.out hn).below ((Below.refl _ _).alloc (Nat.le_refl _) _ : Below w5.heap.size w5 (w5.alloc (.cells #[.slice (some ⟨xy0_0, 0, none⟩) y0n0 y0n0, .slice (some ⟨xy0_1, 0, none⟩) y0n1 y0n1, .int .i64 y0v2, .bool y0v3, .slice (some ⟨xy0_4, 0, none⟩) y0n4 y0n4] 84))) (by have := lxxy0_4 hn; omega)
  have X0_6 : Hid ((w5.alloc (.cells #[.slice (some ⟨xy0_0, 0, none⟩) y0n0 y0n0, .slice (some ⟨xy0_1, 0, none⟩) y0n1 y0n1, .int .i64 y0v2, .bool y0v3, .slice (some ⟨xy0_4, 0, none⟩) y0n4 y0n4] 84)).heap[w5.heap.size]? = some (.cells #[.slice (some ⟨xy0_0, 0, none⟩) y0n0 y0n0, .slice (some ⟨xy0_1, 0, none⟩) y0n1 y0n1, .int .i64 y0v2, .bool y0v3, .slice (some ⟨xy0_4, 0, none⟩) y0n4 y0n4] 84)) := get_new rfl
  have hz_6 : w5.heap.size < (w5.alloc (.cells #[.slice (some ⟨xy0_0, 0, none⟩) y0n0 y0n0, .slice (some ⟨xy0_1, 0, none⟩) y0n1 y0n1, .int .i64 y0v2, .bool y0v3, .slice (some ⟨xy0_4, 0, none⟩) y0n4 y0n4] 84)).heap.size := by simp
  obtain ⟨qA0_0, qA0_1, qA0_2, qA0_3, qA0_4⟩ := cells5_of A0_5.out
  have qzA0 : w.heap.size < w5.heap.size := size_of_get A0_5.out
  obtain ⟨qsR0_0, qsR0_1, qsR0_2, qsR0_3, qsR0_4⟩ := cells5_of sR0_5.out
  have qzsR0 : w3.heap.size < w5.heap.size := size_of_get sR0_5.out
  go_wp2_with fail
  clear qA0_0 qA0_1 qA0_2 qA0_3 qA0_4 qzA0 qsR0_0 qsR0_1 qsR0_2 qsR0_3 qsR0_4 qzsR0
  generalize (w5.alloc (.cells #[.slice (some ⟨xy0_0, 0, none⟩) y0n0 y0n0, .slice (some ⟨xy0_1, 0, none⟩) y0n1 y0n1, .int .i64 y0v2, .bool y0v3, .slice (some ⟨xy0_4, 0, none⟩) y0n4 y0n4] 84)) = w6 at *
  refine (HIM.out xy0_0 xy0_1 xy0_4 _ hmy0_0 hmy0_1 hmy0_4 xy0_0_6.out xy0_1_6.out xy0_4_6.out).mono ?_
  rintro e w8 ⟨gad0_0, gpd0_0, gxd0_0, gad0_1, gpd0_1, gxd0_1, gad0_4, gpd0_4, gxd0_4, rfl, ⟨hqd0_0, hqd0_1, hqd0_4, hqid0_0, hqld0_0, hqfd0_0, hqid0_1, hqld0_1, hqfd0_1, hqid0_4, hqld0_4, hqfd0_4, hqdd0_0_d0_1, hqdd0_0_d0_4, hqdd0_1_d0_4⟩, hb⟩
  have hs_7 : w6.heap.size ≤ w8.heap.size := hb.size
  have B_7 : Hid (Below w.heap.size w w8) := B_6.out.trans (hb.mono B_6.out.size)
  have A0_7 : Hid (w8.heap[w.heap.size]? = some (.cells #[.slice y0a0 y0n0 y0p0, .slice y0a1 y0n1 y0p1, .int .i64 y0v2, .bool y0v3, .slice y0a4 y0n4 y0p4] 80)) := get_below hb A0_6.out (size_of_get A0_6.out)
  have sd0_0_7 : Hid (OpS w8 sad0_0 d0n0 d0g0_0 d0g0_1 d0g0_2) := sd0_0_6.out.below hb
  have sd0_1_7 : Hid (IntS w8 sad0_1 d0n1 d0g1) := sd0_1_6.out.below hb
  have sd0_4_7 : Hid (IntS w8 sad0_4 d0n4 d0g4) := sd0_4_6.out.below hb
  have sR0_7 : Hid (w8.heap[w3.heap.size]? = some (.cells #[.slice sad0_0 d0n0 spd0_0, .slice sad0_1 d0n1 spd0_1, .int .i64 d0v2, .bool d0v3, .slice sad0_4 d0n4 spd0_4] 84)) := get_below hb sR0_6.out (size_of_get sR0_6.out)
  have xy0_0_7 : Hid (OpS w8 (some ⟨xy0_0, 0, none⟩) y0n0 y0g0_0 y0g0_1 y0g0_2) := xy0_0_6.out.below hb
  have xy0_1_7 : Hid (IntS w8 (some ⟨xy0_1, 0, none⟩) y0n1 y0g1) := xy0_1_6.out.below hb
  have xy0_4_7 : Hid (IntS w8 (some ⟨xy0_4, 0, none⟩) y0n4 y0g4) := xy0_4_6.out.below hb
  have xFy0_0_7 : Hid (y0n0 ≠ 0 → Free w8 xy0_0) := fun hn => (xFy0_0_6.out hn).below hb (by have := lxxy0_0 hn; omega)
  have xFy0_1_7 : Hid (y0n1 ≠ 0 → Free w8 xy0_1) := fun hn => (xFy0_1_6.out hn).below hb (by have := lxxy0_1 hn; omega)
  have xFy0_4_7 : Hid (y0n4 ≠ 0 → Free w8 xy0_4) := fun hn => (xFy0_4_6.out hn).below hb (by have := lxxy0_4 hn; omega)
  have X0_7 : Hid (w8.heap[w5.heap.size]? = some (.cells #[.slice (some ⟨xy0_0, 0, none⟩) y0n0 y0n0, .slice (some ⟨xy0_1, 0, none⟩) y0n1 y0n1, .int .i64 y0v2, .bool y0v3, .slice (some ⟨xy0_4, 0, none⟩) y0n4 y0n4] 84)) := get_below hb X0_6.out (size_of_get X0_6.out)
  clear hb
  have gld0_0 := hqld0_0
  have gid0_0 := hqid0_0
  have gd0_0_7 : Hid (OpS w8 gad0_0 d0n0 d0g0_0 d0g0_1 d0g0_2) := hqd0_0
  have gFd0_0_7 : Hid (d0n0 ≠ 0 → Free w8 gxd0_0) := hqfd0_0
  clear hqd0_0 hqfd0_0 hqld0_0 hqid0_0
  have gld0_1 := hqld0_1
  have gid0_1 := hqid0_1
  have gd0_1_7 : Hid (IntS w8 gad0_1 d0n1 d0g1) := hqd0_1
  have gFd0_1_7 : Hid (d0n1 ≠ 0 → Free w8 gxd0_1) := hqfd0_1
  clear hqd0_1 hqfd0_1 hqld0_1 hqid0_1
  have gld0_4 := hqld0_4
  have gid0_4 := hqid0_4
  have gd0_4_7 : Hid (IntS w8 gad0_4 d0n4 d0g4) := hqd0_4
  have gFd0_4_7 : Hid (d0n4 ≠ 0 → Free w8 gxd0_4) := hqfd0_4
  clear hqd0_4 hqfd0_4 hqld0_4 hqid0_4
  have gdd0_0_d0_1 := hqdd0_0_d0_1
  clear hqdd0_0_d0_1
  have gdd0_0_d0_4 := hqdd0_0_d0_4
  clear hqdd0_0_d0_4
  have gdd0_1_d0_4 := hqdd0_1_d0_4
  clear hqdd0_1_d0_4
  have hs_8 : w8.heap.size ≤ (w8.alloc (.cells #[.slice gad0_0 d0n0 gpd0_0, .slice gad0_1 d0n1 gpd0_1, .int .i64 d0v2, .bool d0v3, .slice gad0_4 d0n4 gpd0_4] 84)).heap.size := ((Below.refl _ _).alloc (Nat.le_refl _) _ : Below w8.heap.size w8 (w8.alloc (.cells #[.slice gad0_0 d0n0 gpd0_0, .slice gad0_1 d0n1 gpd0_1, .int .i64 d0v2, .bool d0v3, .slice gad0_4 d0n4 gpd0_4] 84))).size
  have B_8 : Hid (Below w.heap.size w (w8.alloc (.cells #[.slice gad0_0 d0n0 gpd0_0, .slice gad0_1 d0n1 gpd0_1, .int .i64 d0v2, .bool d0v3, .slice gad0_4 d0n4 gpd0_4] 84))) := B_7.out.trans (((Below.refl _ _).alloc (Nat.le_refl _) _ : Below w8.heap.size w8 (w8.alloc (.cells #[.slice gad0_0 d0n0 gpd0_0, .slice gad0_1 d0n1 gpd0_1, .int .i64 d0v2, .bool d0v3, .slice gad0_4 d0n4 gpd0_4] 84))).mono B_7.out.size)
  have A0_8 : Hid ((w8.alloc (.cells #[.slice gad0_0 d0n0 gpd0_0, .slice gad0_1 d0n1 gpd0_1, .int .i64 d0v2, .bool d0v3, .slice gad0_4 d0n4 gpd0_4] 84)).heap[w.heap.size]? = some (.cells #[.slice y0a0 y0n0 y0p0, .slice y0a1 y0n1 y0p1, .int .i64 y0v2, .bool y0v3, .slice y0a4 y0n4 y0p4] 80)) := get_below ((Below.refl _ _).alloc (Nat.le_refl _) _ : Below w8.heap.size w8 (w8.alloc (.cells #[.slice gad0_0 d0n0 gpd0_0, .slice gad0_1 d0n1 gpd0_1, .int .i64 d0v2, .bool d0v3, .slice gad0_4 d0n4 gpd0_4] 84))) A0_7.out (size_of_get A0_7.out)
  have sd0_0_8 : Hid (OpS (w8.alloc (.cells #[.slice gad0_0 d0n0 gpd0_0, .slice gad0_1 d0n1 gpd0_1, .int .i64 d0v2, .bool d0v3, .slice gad0_4 d0n4 gpd0_4] 84)) sad0_0 d0n0 d0g0_0 d0g0_1 d0g0_2) := sd0_0_7.out.below ((Below.refl _ _).alloc (Nat.le_refl _) _ : Below w8.heap.size w8 (w8.alloc (.cells #[.slice gad0_0 d0n0 gpd0_0, .slice gad0_1 d0n1 gpd0_1, .int .i64 d0v2, .bool d0v3, .slice gad0_4 d0n4 gpd0_4] 84)))
  have sd0_1_8 : Hid (IntS (w8.alloc (.cells #[.slice gad0_0 d0n0 gpd0_0, .slice gad0_1 d0n1 gpd0_1, .int .i64 d0v2, .bool d0v3, .slice gad0_4 d0n4 gpd0_4] 84)) sad0_1 d0n1 d0g1) := sd0_1_7.out.below ((Below.refl _ _).alloc (Nat.le_refl _) _ : Below w8.heap.size w8 (w8.alloc (.cells #[.slice gad0_0 d0n0 gpd0_0, .slice gad0_1 d0n1 gpd0_1, .int .i64 d0v2, .bool d0v3, .slice gad0_4 d0n4 gpd0_4] 84)))
  have sd0_4_8 : Hid (IntS (w8.alloc (.cells #[.slice gad0_0 d0n0 gpd0_0, .slice gad0_1 d0n1 gpd0_1, .int .i64 d0v2, .bool d0v3, .slice gad0_4 d0n4 gpd0_4] 84)) sad0_4 d0n4 d0g4) := sd0_4_7.out.below ((Below.refl _ _).alloc (Nat.le_refl _) _ : Below w8.heap.size w8 (w8.alloc (.cells #[.slice gad0_0 d0n0 gpd0_0, .slice gad0_1 d0n1 gpd0_1, .int .i64 d0v2, .bool d0v3, .slice gad0_4 d0n4 gpd0_4] 84)))
  have sR0_8 : Hid ((w8.alloc (.cells #[.slice gad0_0 d0n0 gpd0_0, .slice gad0_1 d0n1 gpd0_1, .int .i64 d0v2, .bool d0v3, .slice gad0_4 d0n4 gpd0_4] 84)).heap[w3.heap.size]? = some (.cells #[.slice sad0_0 d0n0 spd0_0, .slice sad0_1 d0n1 spd0_1, .int .i64 d0v2, .bool d0v3, .slice sad0_4 d0n4 spd0_4] 84)) := get_below ((Below.refl _ _).alloc (Nat.le_refl _) _ : Below w8.heap.size w8 (w8.alloc (.cells #[.slice gad0_0 d0n0 gpd0_0, .slice gad0_1 d0n1 gpd0_1, .int .i64 d0v2, .bool d0v3, .slice gad0_4 d0n4 gpd0_4] 84))) sR0_7.out (size_of_get sR0_7.out)
  have xy0_0_8 : Hid (OpS (w8.alloc (.cells #[.slice gad0_0 d0n0 gpd0_0, .slice gad0_1 d0n1 gpd0_1, .int .i64 d0v2, .bool d0v3, .slice gad0_4 d0n4 gpd0_4] 84)) (some ⟨xy0_0, 0, none⟩) y0n0 y0g0_0 y0g0_1 y0g0_2) := xy0_0_7.out.below ((Below.refl _ _).alloc (Nat.le_refl _) _ : Below w8.heap.size w8 (w8.alloc (.cells #[.slice gad0_0 d0n0 gpd0_0, .slice gad0_1 d0n1 gpd0_1, .int .i64 d0v2, .bool d0v3, .slice gad0_4 d0n4 gpd0_4] 84)))
  have xy0_1_8 : Hid (IntS (w8.alloc (.cells #[.slice gad0_0 d0n0 gpd0_0, .slice gad0_1 d0n1 gpd0_1, .int .i64 d0v2, .bool d0v3, .slice gad0_4 d0n4 gpd0_4] 84)) (some ⟨xy0_1, 0, none⟩) y0n1 y0g1) := xy0_1_7.out.below ((Below.refl _ _).alloc (Nat.le_refl _) _ : Below w8.heap.size w8 (w8.alloc (.cells #[.slice gad0_0 d0n0 gpd0_0, .slice gad0_1 d0n1 gpd0_1, .int .i64 d0v2, .bool d0v3, .slice gad0_4 d0n4 gpd0_4] 84)))
  have xy0_4_8 : Hid (IntS (w8.alloc (.cells #[.slice gad0_0 d0n0 gpd0_0, .slice gad0_1 d0n1 gpd0_1, .int .i64 d0v2, .bool d0v3, .slice gad0_4 d0n4 gpd0_4] 84)) (some ⟨xy0_4, 0, none⟩) y0n4 y0g4) := xy0_4_7.out.below ((Below.refl _ _).alloc (Nat.le_refl _) _ : Below w8.heap.size w8 (w8.alloc (.cells #[.slice gad0_0 d0n0 gpd0_0, .slice gad0_1 d0n1 gpd0_1, .int .i64 d0v2, .bool d0v3, .slice gad0_4 d0n4 gpd0_4] 84)))
  have xFy0_0_8 : Hid (y0n0 ≠ 0 → Free (w8.alloc (.cells #[.slice gad0_0 d0n0 gpd0_0, .slice gad0_1 d0n1 gpd0_1, .int .i64 d0v2, .bool d0v3, .slice gad0_4 d0n4 gpd0_4] 84)) xy0_0) := fun hn => (xFy0_0_7.out hn).below ((Below.refl _ _).alloc (Nat.le_refl _) _ : Below w8.heap.size w8 (w8.alloc (.cells #[.slice gad0_0 d0n0 gpd0_0, .slice gad0_1 d0n1 gpd0_1, .int .i64 d0v2, .bool d0v3, .slice gad0_4 d0n4 gpd0_4] 84))) (by have := lxxy0_0 hn; omega)
  have xFy0_1_8 : Hid (y0n1 ≠ 0 → Free (w8.alloc (.cells #[.slice gad0_0 d0n0 gpd0_0, .slice gad0_1 d0n1 gpd0_1, .int .i64 d0v2, .bool d0v3, .slice gad0_4 d0n4 gpd0_4] 84)) xy0_1) := fun hn => (xFy0_1_7.out hn).below ((Below.refl _ _).alloc (Nat.le_refl _) _ : Below w8.heap.size w8 (w8.alloc (.cells #[.slice gad0_0 d0n0 gpd0_0, .slice gad0_1 d0n1 gpd0_1, .int .i64 d0v2, .bool d0v3, .slice gad0_4 d0n4 gpd0_4] 84))) (by have := lxxy0_1 hn; omega)
  have xFy0_4_8 : Hid (y0n4 ≠ 0 → Free (w8.alloc (.cells #[.slice gad0_0 d0n0 gpd0_0, .slice gad0_1 d0n1 gpd0_1, .int .i64 d0v2, .bool d0v3, .slice gad0_4 d0n4 gpd0_4] 84)) xy0_4) := fun hn => (xFy0_4_7.out hn).below ((Below.refl _ _).alloc (Nat.le_refl _) _ : Below w8.heap.size w8 (w8.alloc (.cells #[.slice gad0_0 d0n0 gpd0_0, .slice gad0_1 d0n1 gpd0_1, .int .i64 d0v2, .bool d0v3, .slice gad0_4 d0n4 gpd0_4] 84))) (by have := lxxy0_4 hn; omega)
  have X0_8 : Hid ((w8.alloc (.cells #[.slice gad0_0 d0n0 gpd0_0, .slice gad0_1 d0n1 gpd0_1, .int .i64 d0v2, .bool d0v3, .slice gad0_4 d0n4 gpd0_4] 84)).heap[w5.heap.size]? = some (.cells #[.slice (some ⟨xy0_0, 0, none⟩) y0n0 y0n0, .slice (some ⟨xy0_1, 0, none⟩) y0n1 y0n1, .int .i64 y0v2, .bool y0v3, .slice (some ⟨xy0_4, 0, none⟩) y0n4 y0n4] 84)) := get_below ((Below.refl _ _).alloc (Nat.le_refl _) _ : Below w8.heap.size w8 (w8.alloc (.cells #[.slice gad0_0 d0n0 gpd0_0, .slice gad0_1 d0n1 gpd0_1, .int .i64 d0v2, .bool d0v3, .slice gad0_4 d0n4 gpd0_4] 84))) X0_7.out (size_of_get X0_7.out)
  have gd0_0_8 : Hid (OpS (w8.alloc (.cells #[.slice gad0_0 d0n0 gpd0_0, .slice gad0_1 d0n1 gpd0_1, .int .i64 d0v2, .bool d0v3, .slice gad0_4 d0n4 gpd0_4] 84)) gad0_0 d0n0 d0g0_0 d0g0_1 d0g0_2) := gd0_0_7.out.below ((Below.refl _ _).alloc (Nat.le_refl _) _ : Below w8.heap.size w8 (w8.alloc (.cells #[.slice gad0_0 d0n0 gpd0_0, .slice gad0_1 d0n1 gpd0_1, .int .i64 d0v2, .bool d0v3, .slice gad0_4 d0n4 gpd0_4] 84)))
  have gFd0_0_8 : Hid (d0n0 ≠ 0 → Free (w8.alloc (.cells #[.slice gad0_0 d0n0 gpd0_0, .slice gad0_1 d0n1 gpd0_1, .int .i64 d0v2, .bool d0v3, .slice gad0_4 d0n4 gpd0_4] 84)) gxd0_0) := fun hn => (gFd0_0_7.out hn).below ((Below.refl _ _).alloc (Nat.le_refl _) _ : Below w8.heap.size w8 (w8.alloc (.cells #[.slice gad0_0 d0n0 gpd0_0, .slice gad0_1 d0n1 gpd0_1, .int .i64 d0v2, .bool d0v3, .slice gad0_4 d0n4 gpd0_4] 84))) (by have := gld0_0 hn; omega)
  have gd0_1_8 : Hid (IntS (w8.alloc (.cells #[.slice gad0_0 d0n0 gpd0_0, .slice gad0_1 d0n1 gpd0_1, .int .i64 d0v2, .bool d0v3, .slice gad0_4 d0n4 gpd0_4] 84)) gad0_1 d0n1 d0g1) := gd0_1_7.out.below ((Below.refl _ _).alloc (Nat.le_refl _) _ : Below w8.heap.size w8 (w8.alloc (.cells #[.slice gad0_0 d0n0 gpd0_0, .slice gad0_1 d0n1 gpd0_1, .int .i64 d0v2, .bool d0v3, .slice gad0_4 d0n4 gpd0_4] 84)))
  have gFd0_1_8 : Hid (d0n1 ≠ 0 → Free (w8.alloc (.cells #[.slice gad0_0 d0n0 gpd0_0, .slice gad0_1 d0n1 gpd0_1, .int .i64 d0v2, .bool d0v3, .slice gad0_4 d0n4 gpd0_4] 84)) gxd0_1) := fun hn => (gFd0_1_7.out hn).below ((Below.refl _ _).alloc (Nat.le_refl _) _ : Below w8.heap.size w8 (w8.alloc (.cells #[.slice gad0_0 d0n0 gpd0_0, .slice gad0_1 d0n1 gpd0_1, .int .i64 d0v2, .bool d0v3, .slice gad0_4 d0n4 gpd0_4] 84))) (by have := gld0_1 hn; omega)
  have gd0_4_8 : Hid (IntS (w8.alloc (.cells #[.slice gad0_0 d0n0 gpd0_0, .slice gad0_1 d0n1 gpd0_1, .int .i64 d0v2, .bool d0v3, .slice gad0_4 d0n4 gpd0_4] 84)) gad0_4 d0n4 d0g4) := gd0_4_7.out.below ((Below.refl _ _).alloc (Nat.le_refl _) _ : Below w8.heap.size w8 (w8.alloc (.cells #[.slice gad0_0 d0n0 gpd0_0, .slice gad0_1 d0n1 gpd0_1, .int .i64 d0v2, .bool d0v3, .slice gad0_4 d0n4 gpd0_4] 84)))
  have gFd0_4_8 : Hid (d0n4 ≠ 0 → Free (w8.alloc (.cells #[.slice gad0_0 d0n0 gpd0_0, .slice gad0_1 d0n1 gpd0_1, .int .i64 d0v2, .bool d0v3, .slice gad0_4 d0n4 gpd0_4] 84)) gxd0_4) := fun hn => (gFd0_4_7.out hn).below ((Below.refl _ _).alloc (Nat.le_refl _) _ : Below w8.heap.size w8 (w8.alloc (.cells #[.slice gad0_0 d0n0 gpd0_0, .slice gad0_1 d0n1 gpd0_1, .int .i64 d0v2, .bool d0v3, .slice gad0_4 d0n4 gpd0_4] 84))) (by have := gld0_4 hn; omega)
  have gR0_8 : Hid ((w8.alloc (.cells #[.slice gad0_0 d0n0 gpd0_0, .slice gad0_1 d0n1 gpd0_1, .int .i64 d0v2, .bool d0v3, .slice gad0_4 d0n4 gpd0_4] 84)).heap[w8.heap.size]? = some (.cells #[.slice gad0_0 d0n0 gpd0_0, .slice gad0_1 d0n1 gpd0_1, .int .i64 d0v2, .bool d0v3, .slice gad0_4 d0n4 gpd0_4] 84)) := get_new rfl
  have hz_8 : w8.heap.size < (w8.alloc (.cells #[.slice gad0_0 d0n0 gpd0_0, .slice gad0_1 d0n1 gpd0_1, .int .i64 d0v2, .bool d0v3, .slice gad0_4 d0n4 gpd0_4] 84)).heap.size := by simp
  obtain ⟨qA0_0, qA0_1, qA0_2, qA0_3, qA0_4⟩ := cells5_of A0_7.out
  have qzA0 : w.heap.size < w8.heap.size := size_of_get A0_7.out
  obtain ⟨qsR0_0, qsR0_1, qsR0_2, qsR0_3, qsR0_4⟩ := cells5_of sR0_7.out
  have qzsR0 : w3.heap.size < w8.heap.size := size_of_get sR0_7.out
  obtain ⟨qX0_0, qX0_1, qX0_2, qX0_3, qX0_4⟩ := cells5_of X0_7.out
  have qzX0 : w5.heap.size < w8.heap.size := size_of_get X0_7.out
  go_wp2_with fail
  clear qA0_0 qA0_1 qA0_2 qA0_3 qA0_4 qzA0 qsR0_0 qsR0_1 qsR0_2 qsR0_3 qsR0_4 qzsR0 qX0_0 qX0_1 qX0_2 qX0_3 qX0_4 qzX0
  generalize (w8.alloc (.cells #[.slice gad0_0 d0n0 gpd0_0, .slice gad0_1 d0n1 gpd0_1, .int .i64 d0v2, .bool d0v3, .slice gad0_4 d0n4 gpd0_4] 84)) = w9 at *
  refine (eqPart_any gad0_0 d0n0 gpd0_0 d0g0_0 d0g0_1 d0g0_2 gad0_1 d0n1 gpd0_1 d0g1 d0v2 d0v3 gad0_4 d0n4 gpd0_4 d0g4 sad0_0 spd0_0 sad0_1 spd0_1 sad0_4 spd0_4 _ (by unfold maxLen; omega) (by unfold maxLen; omega) (by unfold maxLen; omega) gd0_0_8.out gd0_1_8.out gd0_4_8.out sd0_0_8.out sd0_1_8.out sd0_4_8.out).mono ?_
  rintro e w10 ⟨rfl, hb⟩
  have hs_9 : w9.heap.size ≤ w10.heap.size := hb.size
  have B_9 : Hid (Below w.heap.size w w10) := B_8.out.trans (hb.mono B_8.out.size)
  have A0_9 : Hid (w10.heap[w.heap.size]? = some (.cells #[.slice y0a0 y0n0 y0p0, .slice y0a1 y0n1 y0p1, .int .i64 y0v2, .bool y0v3, .slice y0a4 y0n4 y0p4] 80)) := get_below hb A0_8.out (size_of_get A0_8.out)
  have sd0_0_9 : Hid (OpS w10 sad0_0 d0n0 d0g0_0 d0g0_1 d0g0_2) := sd0_0_8.out.below hb
  have sd0_1_9 : Hid (IntS w10 sad0_1 d0n1 d0g1) := sd0_1_8.out.below hb
  have sd0_4_9 : Hid (IntS w10 sad0_4 d0n4 d0g4) := sd0_4_8.out.below hb
  have sR0_9 : Hid (w10.heap[w3.heap.size]? = some (.cells #[.slice sad0_0 d0n0 spd0_0, .slice sad0_1 d0n1 spd0_1, .int .i64 d0v2, .bool d0v3, .slice sad0_4 d0n4 spd0_4] 84)) := get_below hb sR0_8.out (size_of_get sR0_8.out)
  have xy0_0_9 : Hid (OpS w10 (some ⟨xy0_0, 0, none⟩) y0n0 y0g0_0 y0g0_1 y0g0_2) := xy0_0_8.out.below hb
  have xy0_1_9 : Hid (IntS w10 (some ⟨xy0_1, 0, none⟩) y0n1 y0g1) := xy0_1_8.out.below hb
  have xy0_4_9 : Hid (IntS w10 (some ⟨xy0_4, 0, none⟩) y0n4 y0g4) := xy0_4_8.out.below hb
  have xFy0_0_9 : Hid (y0n0 ≠ 0 → Free w10 xy0_0) := fun hn => (xFy0_0_8.out hn).below hb (by have := lxxy0_0 hn; omega)
  have xFy0_1_9 : Hid (y0n1 ≠ 0 → Free w10 xy0_1) := fun hn => (xFy0_1_8.out hn).below hb (by have := lxxy0_1 hn; omega)
  have xFy0_4_9 : Hid (y0n4 ≠ 0 → Free w10 xy0_4) := fun hn => (xFy0_4_8.out hn).below hb (by have := lxxy0_4 hn; omega)
  have X0_9 : Hid (w10.heap[w5.heap.size]? = some (.cells #[.slice (some ⟨xy0_0, 0, none⟩) y0n0 y0n0, .slice (some ⟨xy0_1, 0, none⟩) y0n1 y0n1, .int .i64 y0v2, .bool y0v3, .slice (some ⟨xy0_4, 0, none⟩) y0n4 y0n4] 84)) := get_below hb X0_8.out (size_of_get X0_8.out)
  have gd0_0_9 : Hid (OpS w10 gad0_0 d0n0 d0g0_0 d0g0_1 d0g0_2) := gd0_0_8.out.below hb
  have gFd0_0_9 : Hid (d0n0 ≠ 0 → Free w10 gxd0_0) := fun hn => (gFd0_0_8.out hn).below hb (by have := gld0_0 hn; omega)
  have gd0_1_9 : Hid (IntS w10 gad0_1 d0n1 d0g1) := gd0_1_8.out.below hb
  have gFd0_1_9 : Hid (d0n1 ≠ 0 → Free w10 gxd0_1) := fun hn => (gFd0_1_8.out hn).below hb (by have := gld0_1 hn; omega)
  have gd0_4_9 : Hid (IntS w10 gad0_4 d0n4 d0g4) := gd0_4_8.out.below hb
  have gFd0_4_9 : Hid (d0n4 ≠ 0 → Free w10 gxd0_4) := fun hn => (gFd0_4_8.out hn).below hb (by have := gld0_4 hn; omega)
  have gR0_9 : Hid (w10.heap[w8.heap.size]? = some (.cells #[.slice gad0_0 d0n0 gpd0_0, .slice gad0_1 d0n1 gpd0_1, .int .i64 d0v2, .bool d0v3, .slice gad0_4 d0n4 gpd0_4] 84)) := get_below hb gR0_8.out (size_of_get gR0_8.out)
  clear hb
  obtain ⟨qA0_0, qA0_1, qA0_2, qA0_3, qA0_4⟩ := cells5_of A0_9.out
  have qzA0 : w.heap.size < w10.heap.size := size_of_get A0_9.out
  obtain ⟨qsR0_0, qsR0_1, qsR0_2, qsR0_3, qsR0_4⟩ := cells5_of sR0_9.out
  have qzsR0 : w3.heap.size < w10.heap.size := size_of_get sR0_9.out
  obtain ⟨qX0_0, qX0_1, qX0_2, qX0_3, qX0_4⟩ := cells5_of X0_9.out
  have qzX0 : w5.heap.size < w10.heap.size := size_of_get X0_9.out
  obtain ⟨qgR0_0, qgR0_1, qgR0_2, qgR0_3, qgR0_4⟩ := cells5_of gR0_9.out
  have qzgR0 : w8.heap.size < w10.heap.size := size_of_get gR0_9.out
  go_wp2_with fail
  clear qA0_0 qA0_1 qA0_2 qA0_3 qA0_4 qzA0 qsR0_0 qsR0_1 qsR0_2 qsR0_3 qsR0_4 qzsR0 qX0_0 qX0_1 qX0_2 qX0_3 qX0_4 qzX0 qgR0_0 qgR0_1 qgR0_2 qgR0_3 qgR0_4 qzgR0
  obtain ⟨ka0, ka1, ka2, ka3, ka4⟩ := cells5_of A0_9.out
  obtain ⟨kx0, kx1, kx2, kx3, kx4⟩ := cells5_of X0_9.out
  have HD : Below w10.heap.size w10 w10.drew ∧ w10.drew.cell? ⟨w.heap.size, 0, none⟩ = some (.slice y0a0 y0n0 y0p0) ∧ w10.drew.cell? ⟨w.heap.size, 1, none⟩ = some (.slice y0a1 y0n1 y0p1) ∧ w10.drew.cell? ⟨w.heap.size, 2, none⟩ = some (.int .i64 y0v2) ∧ w10.drew.cell? ⟨w.heap.size, 3, none⟩ = some (.bool y0v3) ∧ w10.drew.cell? ⟨w.heap.size, 4, none⟩ = some (.slice y0a4 y0n4 y0p4) ∧ w10.drew.cell? ⟨w5.heap.size, 0, none⟩ = some (.slice (some ⟨xy0_0, 0, none⟩) y0n0 y0n0) ∧ w10.drew.cell? ⟨w5.heap.size, 1, none⟩ = some (.slice (some ⟨xy0_1, 0, none⟩) y0n1 y0n1) ∧ w10.drew.cell? ⟨w5.heap.size, 2, none⟩ = some (.int .i64 y0v2) ∧ w10.drew.cell? ⟨w5.heap.size, 3, none⟩ = some (.bool y0v3) ∧ w10.drew.cell? ⟨w5.heap.size, 4, none⟩ = some (.slice (some ⟨xy0_4, 0, none⟩) y0n4 y0n4) := ⟨(Below.refl _ _).drew, ka0, ka1, ka2, ka3, ka4, kx0, kx1, kx2, kx3, kx4⟩
  clear ka0 ka1 ka2 ka3 ka4 kx0 kx1 kx2 kx3 kx4
  go_region_held2 (fun W => Below w10.heap.size w10 W ∧ W.cell? ⟨w.heap.size, 0, none⟩ = some (.slice y0a0 y0n0 y0p0) ∧ W.cell? ⟨w.heap.size, 1, none⟩ = some (.slice y0a1 y0n1 y0p1) ∧ W.cell? ⟨w.heap.size, 2, none⟩ = some (.int .i64 y0v2) ∧ W.cell? ⟨w.heap.size, 3, none⟩ = some (.bool y0v3) ∧ W.cell? ⟨w.heap.size, 4, none⟩ = some (.slice y0a4 y0n4 y0p4) ∧ W.cell? ⟨w5.heap.size, 0, none⟩ = some (.slice (some ⟨xy0_0, 0, none⟩) y0n0 y0n0) ∧ W.cell? ⟨w5.heap.size, 1, none⟩ = some (.slice (some ⟨xy0_1, 0, none⟩) y0n1 y0n1) ∧ W.cell? ⟨w5.heap.size, 2, none⟩ = some (.int .i64 y0v2) ∧ W.cell? ⟨w5.heap.size, 3, none⟩ = some (.bool y0v3) ∧ W.cell? ⟨w5.heap.size, 4, none⟩ = some (.slice (some ⟨xy0_4, 0, none⟩) y0n4 y0n4)) (first | with_reducible assumption) ((first | (go_at_call 55; refine (toPart_any y0a0 y0n0 y0p0 y0g0_0 y0g0_1 y0g0_2 y0a1 y0n1 y0p1 y0g1 y0v2 y0v3 y0a4 y0n4 y0p4 y0g4 _ hmy0_0 hmy0_1 hmy0_4 (HAy0_0.out.below (B_9.out.trans ((show Below w10.heap.size w10 _ from (Below.refl _ _).drew).mono B_9.out.size))) (HAy0_1.out.below (B_9.out.trans ((show Below w10.heap.size w10 _ from (Below.refl _ _).drew).mono B_9.out.size))) (HAy0_4.out.below (B_9.out.trans ((show Below w10.heap.size w10 _ from (Below.refl _ _).drew).mono B_9.out.size)))).mono ?_; rintro e wq8 ⟨zy0_0, zy0_1, zy0_4, hor8, rfl, ⟨hzy0_0, hzy0_1, hzy0_4⟩, hb8⟩; have HK := keepC10 (by with_reducible assumption) hb8; have HZy0_0 : Hid _ := hzy0_0; have HZy0_1 : Hid _ := hzy0_1; have HZy0_4 : Hid _ := hzy0_4; clear hzy0_0 hzy0_1 hzy0_4 hb8) | (go_at_call 57; refine (eqPart_any (some ⟨xy0_0, 0, none⟩) y0n0 y0n0 y0g0_0 y0g0_1 y0g0_2 (some ⟨xy0_1, 0, none⟩) y0n1 y0n1 y0g1 y0v2 y0v3 (some ⟨xy0_4, 0, none⟩) y0n4 y0n4 y0g4 _ _ _ _ _ _ _ hxy0_0 hxy0_1 hxy0_4 (xy0_0_9.out.below HK.1) (xy0_1_9.out.below HK.1) (xy0_4_9.out.below HK.1) HZy0_0.out HZy0_1.out HZy0_4.out).mono ?_; rintro e wq9 ⟨rfl, hb9⟩; have HK9 := keepC10 (by with_reducible assumption) hb9; clear hb9)))
  have hb : Below w10.heap.size w10 wq9 := HK9.1
  clear HK9 HK
  try clear HD
  try clear hor8
  have hs_10 : w10.heap.size ≤ wq9.heap.size := hb.size
  have B_10 : Hid (Below w.heap.size w wq9) := B_9.out.trans (hb.mono B_9.out.size)
  have A0_10 : Hid (wq9.heap[w.heap.size]? = some (.cells #[.slice y0a0 y0n0 y0p0, .slice y0a1 y0n1 y0p1, .int .i64 y0v2, .bool y0v3, .slice y0a4 y0n4 y0p4] 80)) := get_below hb A0_9.out (size_of_get A0_9.out)
  have sd0_0_10 : Hid (OpS wq9 sad0_0 d0n0 d0g0_0 d0g0_1 d0g0_2) := sd0_0_9.out.below hb
  have sd0_1_10 : Hid (IntS wq9 sad0_1 d0n1 d0g1) := sd0_1_9.out.below hb
  have sd0_4_10 : Hid (IntS wq9 sad0_4 d0n4 d0g4) := sd0_4_9.out.below hb
  have sR0_10 : Hid (wq9.heap[w3.heap.size]? = some (.cells #[.slice sad0_0 d0n0 spd0_0, .slice sad0_1 d0n1 spd0_1, .int .i64 d0v2, .bool d0v3, .slice sad0_4 d0n4 spd0_4] 84)) := get_below hb sR0_9.out (size_of_get sR0_9.out)
  have xy0_0_10 : Hid (OpS wq9 (some ⟨xy0_0, 0, none⟩) y0n0 y0g0_0 y0g0_1 y0g0_2) := xy0_0_9.out.below hb
  have xy0_1_10 : Hid (IntS wq9 (some ⟨xy0_1, 0, none⟩) y0n1 y0g1) := xy0_1_9.out.below hb
  have xy0_4_10 : Hid (IntS wq9 (some ⟨xy0_4, 0, none⟩) y0n4 y0g4) := xy0_4_9.out.below hb
  have xFy0_0_10 : Hid (y0n0 ≠ 0 → Free wq9 xy0_0) := fun hn => (xFy0_0_9.out hn).below hb (by have := lxxy0_0 hn; omega)
  have xFy0_1_10 : Hid (y0n1 ≠ 0 → Free wq9 xy0_1) := fun hn => (xFy0_1_9.out hn).below hb (by have := lxxy0_1 hn; omega)
  have xFy0_4_10 : Hid (y0n4 ≠ 0 → Free wq9 xy0_4) := fun hn => (xFy0_4_9.out hn).below hb (by have := lxxy0_4 hn; omega)
  have X0_10 : Hid (wq9.heap[w5.heap.size]? = some (.cells #[.slice (some ⟨xy0_0, 0, none⟩) y0n0 y0n0, .slice (some ⟨xy0_1, 0, none⟩) y0n1 y0n1, .int .i64 y0v2, .bool y0v3, .slice (some ⟨xy0_4, 0, none⟩) y0n4 y0n4] 84)) := get_below hb X0_9.out (size_of_get X0_9.out)
  have gd0_0_10 : Hid (OpS wq9 gad0_0 d0n0 d0g0_0 d0g0_1 d0g0_2) := gd0_0_9.out.below hb
  have gFd0_0_10 : Hid (d0n0 ≠ 0 → Free wq9 gxd0_0) := fun hn => (gFd0_0_9.out hn).below hb (by have := gld0_0 hn; omega)
  have gd0_1_10 : Hid (IntS wq9 gad0_1 d0n1 d0g1) := gd0_1_9.out.below hb
  have gFd0_1_10 : Hid (d0n1 ≠ 0 → Free wq9 gxd0_1) := fun hn => (gFd0_1_9.out hn).below hb (by have := gld0_1 hn; omega)
  have gd0_4_10 : Hid (IntS wq9 gad0_4 d0n4 d0g4) := gd0_4_9.out.below hb
  have gFd0_4_10 : Hid (d0n4 ≠ 0 → Free wq9 gxd0_4) := fun hn => (gFd0_4_9.out hn).below hb (by have := gld0_4 hn; omega)
  have gR0_10 : Hid (wq9.heap[w8.heap.size]? = some (.cells #[.slice gad0_0 d0n0 gpd0_0, .slice gad0_1 d0n1 gpd0_1, .int .i64 d0v2, .bool d0v3, .slice gad0_4 d0n4 gpd0_4] 84)) := get_below hb gR0_9.out (size_of_get gR0_9.out)
  clear hb
  generalize wq9 = w11 at *
  obtain ⟨qA0_0, qA0_1, qA0_2, qA0_3, qA0_4⟩ := cells5_of A0_10.out
  have qzA0 : w.heap.size < w11.heap.size := size_of_get A0_10.out
  obtain ⟨qsR0_0, qsR0_1, qsR0_2, qsR0_3, qsR0_4⟩ := cells5_of sR0_10.out
  have qzsR0 : w3.heap.size < w11.heap.size := size_of_get sR0_10.out
  obtain ⟨qX0_0, qX0_1, qX0_2, qX0_3, qX0_4⟩ := cells5_of X0_10.out
  have qzX0 : w5.heap.size < w11.heap.size := size_of_get X0_10.out
  obtain ⟨qgR0_0, qgR0_1, qgR0_2, qgR0_3, qgR0_4⟩ := cells5_of gR0_10.out
  have qzgR0 : w8.heap.size < w11.heap.size := size_of_get gR0_10.out
  go_wp2_with fail
  clear qA0_0 qA0_1 qA0_2 qA0_3 qA0_4 qzA0 qsR0_0 qsR0_1 qsR0_2 qsR0_3 qsR0_4 qzsR0 qX0_0 qX0_1 qX0_2 qX0_3 qX0_4 qzX0 qgR0_0 qgR0_1 qgR0_2 qgR0_3 qgR0_4 qzgR0
  refine (markPart_any (some ⟨xy0_0, 0, none⟩) y0n0 y0n0 y0g0_0 y0g0_1 y0g0_2 (some ⟨xy0_1, 0, none⟩) y0n1 y0n1 y0g1 y0v2 y0v3 (some ⟨xy0_4, 0, none⟩) y0n4 y0n4 y0g4 xy0_0 xy0_1 xy0_4 (1) _ (by omega) (by omega) (by omega) (by omega) (by omega) xy0_0_10.out xy0_1_10.out xy0_4_10.out (In.mk _ _ _) (In.mk _ _ _) (In.mk _ _ _) xFy0_0_10.out xFy0_1_10.out xFy0_4_10.out (fun hz => by have := lxxy0_0 hz; omega) (fun hz => by have := lxxy0_1 hz; omega) (fun hz => by have := lxxy0_4 hz; omega) (fun _ _ => by have := hox0; omega) (fun _ _ => by have := hox0; omega) (fun _ _ => by have := hox0; omega)).mono ?_
  rintro e w12 ⟨rfl, _, ho⟩
  have hs_11 : w11.heap.size ≤ w12.heap.size := ho.size
  have B_11 : Hid (Below w.heap.size w w12) := Off.below B_10.out ho B_10.out.size (app_ge (own_ge fun hz => by have := lxxy0_0 hz; omega) (app_ge (own_ge fun hz => by have := lxxy0_1 hz; omega) (own_ge fun hz => by have := lxxy0_4 hz; omega)))
  have A0_11 : Hid (w12.heap[w.heap.size]? = some (.cells #[.slice y0a0 y0n0 y0p0, .slice y0a1 y0n1 y0p1, .int .i64 y0v2, .bool y0v3, .slice y0a4 y0n4 y0p4] 80)) := ho.get A0_10.out (own_app (own_ne fun hz => by have := lxxy0_0 hz; omega) (own_app (own_ne fun hz => by have := lxxy0_1 hz; omega) (own_ne fun hz => by have := lxxy0_4 hz; omega)))
  have sd0_0_11 : Hid (OpS w12 sad0_0 d0n0 d0g0_0 d0g0_1 d0g0_2) := sd0_0_10.out.off hsid0_0 ho (fun hn => (own_app (own_ne fun hz => by have := lxxy0_0 hz; have := hsld0_0 hn; omega) (own_app (own_ne fun hz => by have := lxxy0_1 hz; have := hsld0_0 hn; omega) (own_ne fun hz => by have := lxxy0_4 hz; have := hsld0_0 hn; omega))))
  have sd0_1_11 : Hid (IntS w12 sad0_1 d0n1 d0g1) := sd0_1_10.out.off hsid0_1 ho (fun hn => (own_app (own_ne fun hz => by have := lxxy0_0 hz; have := hsld0_1 hn; omega) (own_app (own_ne fun hz => by have := lxxy0_1 hz; have := hsld0_1 hn; omega) (own_ne fun hz => by have := lxxy0_4 hz; have := hsld0_1 hn; omega))))
  have sd0_4_11 : Hid (IntS w12 sad0_4 d0n4 d0g4) := sd0_4_10.out.off hsid0_4 ho (fun hn => (own_app (own_ne fun hz => by have := lxxy0_0 hz; have := hsld0_4 hn; omega) (own_app (own_ne fun hz => by have := lxxy0_1 hz; have := hsld0_4 hn; omega) (own_ne fun hz => by have := lxxy0_4 hz; have := hsld0_4 hn; omega))))
  have sR0_11 : Hid (w12.heap[w3.heap.size]? = some (.cells #[.slice sad0_0 d0n0 spd0_0, .slice sad0_1 d0n1 spd0_1, .int .i64 d0v2, .bool d0v3, .slice sad0_4 d0n4 spd0_4] 84)) := ho.get sR0_10.out (own_app (own_ne fun hz => by have := lxxy0_0 hz; omega) (own_app (own_ne fun hz => by have := lxxy0_1 hz; omega) (own_ne fun hz => by have := lxxy0_4 hz; omega)))
  have X0_11 : Hid (w12.heap[w5.heap.size]? = some (.cells #[.slice (some ⟨xy0_0, 0, none⟩) y0n0 y0n0, .slice (some ⟨xy0_1, 0, none⟩) y0n1 y0n1, .int .i64 y0v2, .bool y0v3, .slice (some ⟨xy0_4, 0, none⟩) y0n4 y0n4] 84)) := ho.get X0_10.out (own_app (own_ne fun hz => by have := lxxy0_0 hz; omega) (own_app (own_ne fun hz => by have := lxxy0_1 hz; omega) (own_ne fun hz => by have := lxxy0_4 hz; omega)))
  have gd0_0_11 : Hid (OpS w12 gad0_0 d0n0 d0g0_0 d0g0_1 d0g0_2) := gd0_0_10.out.off gid0_0 ho (fun hn => (own_app (own_ne fun hz => by have := lxxy0_0 hz; have := gld0_0 hn; omega) (own_app (own_ne fun hz => by have := lxxy0_1 hz; have := gld0_0 hn; omega) (own_ne fun hz => by have := lxxy0_4 hz; have := gld0_0 hn; omega))))
  have gFd0_0_11 : Hid (d0n0 ≠ 0 → Free w12 gxd0_0) := fun hn => (gFd0_0_10.out hn).off ho (by have := gld0_0 hn; omega) (own_app (own_ne fun hz => by have := lxxy0_0 hz; have := gld0_0 hn; omega) (own_app (own_ne fun hz => by have := lxxy0_1 hz; have := gld0_0 hn; omega) (own_ne fun hz => by have := lxxy0_4 hz; have := gld0_0 hn; omega)))
  have gd0_1_11 : Hid (IntS w12 gad0_1 d0n1 d0g1) := gd0_1_10.out.off gid0_1 ho (fun hn => (own_app (own_ne fun hz => by have := lxxy0_0 hz; have := gld0_1 hn; omega) (own_app (own_ne fun hz => by have := lxxy0_1 hz; have := gld0_1 hn; omega) (own_ne fun hz => by have := lxxy0_4 hz; have := gld0_1 hn; omega))))
  have gFd0_1_11 : Hid (d0n1 ≠ 0 → Free w12 gxd0_1) := fun hn => (gFd0_1_10.out hn).off ho (by have := gld0_1 hn; omega) (own_app (own_ne fun hz => by have := lxxy0_0 hz; have := gld0_1 hn; omega) (own_app (own_ne fun hz => by have := lxxy0_1 hz; have := gld0_1 hn; omega) (own_ne fun hz => by have := lxxy0_4 hz; have := gld0_1 hn; omega)))
  have gd0_4_11 : Hid (IntS w12 gad0_4 d0n4 d0g4) := gd0_4_10.out.off gid0_4 ho (fun hn => (own_app (own_ne fun hz => by have := lxxy0_0 hz; have := gld0_4 hn; omega) (own_app (own_ne fun hz => by have := lxxy0_1 hz; have := gld0_4 hn; omega) (own_ne fun hz => by have := lxxy0_4 hz; have := gld0_4 hn; omega))))
  have gFd0_4_11 : Hid (d0n4 ≠ 0 → Free w12 gxd0_4) := fun hn => (gFd0_4_10.out hn).off ho (by have := gld0_4 hn; omega) (own_app (own_ne fun hz => by have := lxxy0_0 hz; have := gld0_4 hn; omega) (own_app (own_ne fun hz => by have := lxxy0_1 hz; have := gld0_4 hn; omega) (own_ne fun hz => by have := lxxy0_4 hz; have := gld0_4 hn; omega)))
  have gR0_11 : Hid (w12.heap[w8.heap.size]? = some (.cells #[.slice gad0_0 d0n0 gpd0_0, .slice gad0_1 d0n1 gpd0_1, .int .i64 d0v2, .bool d0v3, .slice gad0_4 d0n4 gpd0_4] 84)) := ho.get gR0_10.out (own_app (own_ne fun hz => by have := lxxy0_0 hz; omega) (own_app (own_ne fun hz => by have := lxxy0_1 hz; omega) (own_ne fun hz => by have := lxxy0_4 hz; omega)))
  clear ho
  have hkp0 : ¬ 1 + 3 * y0n0 + y0n1 + y0n4 < 0 := by omega
  obtain ⟨qA0_0, qA0_1, qA0_2, qA0_3, qA0_4⟩ := cells5_of A0_11.out
  have qzA0 : w.heap.size < w12.heap.size := size_of_get A0_11.out
  obtain ⟨qsR0_0, qsR0_1, qsR0_2, qsR0_3, qsR0_4⟩ := cells5_of sR0_11.out
  have qzsR0 : w3.heap.size < w12.heap.size := size_of_get sR0_11.out
  obtain ⟨qX0_0, qX0_1, qX0_2, qX0_3, qX0_4⟩ := cells5_of X0_11.out
  have qzX0 : w5.heap.size < w12.heap.size := size_of_get X0_11.out
  obtain ⟨qgR0_0, qgR0_1, qgR0_2, qgR0_3, qgR0_4⟩ := cells5_of gR0_11.out
  have qzgR0 : w8.heap.size < w12.heap.size := size_of_get gR0_11.out
  go_wp2_with fail
  clear qA0_0 qA0_1 qA0_2 qA0_3 qA0_4 qzA0 qsR0_0 qsR0_1 qsR0_2 qsR0_3 qsR0_4 qzsR0 qX0_0 qX0_1 qX0_2 qX0_3 qX0_4 qzX0 qgR0_0 qgR0_1 qgR0_2 qgR0_3 qgR0_4 qzgR0
  refine (eqPart_any gad0_0 d0n0 gpd0_0 d0g0_0 d0g0_1 d0g0_2 gad0_1 d0n1 gpd0_1 d0g1 d0v2 d0v3 gad0_4 d0n4 gpd0_4 d0g4 sad0_0 spd0_0 sad0_1 spd0_1 sad0_4 spd0_4 _ (by unfold maxLen; omega) (by unfold maxLen; omega) (by unfold maxLen; omega) gd0_0_11.out gd0_1_11.out gd0_4_11.out sd0_0_11.out sd0_1_11.out sd0_4_11.out).mono ?_
  rintro e w13 ⟨rfl, hb⟩
  have hs_12 : w12.heap.size ≤ w13.heap.size := hb.size
  have B_12 : Hid (Below w.heap.size w w13) := B_11.out.trans (hb.mono B_11.out.size)
  have A0_12 : Hid (w13.heap[w.heap.size]? = some (.cells #[.slice y0a0 y0n0 y0p0, .slice y0a1 y0n1 y0p1, .int .i64 y0v2, .bool y0v3, .slice y0a4 y0n4 y0p4] 80)) := get_below hb A0_11.out (size_of_get A0_11.out)
  have sd0_0_12 : Hid (OpS w13 sad0_0 d0n0 d0g0_0 d0g0_1 d0g0_2) := sd0_0_11.out.below hb
  have sd0_1_12 : Hid (IntS w13 sad0_1 d0n1 d0g1) := sd0_1_11.out.below hb
  have sd0_4_12 : Hid (IntS w13 sad0_4 d0n4 d0g4) := sd0_4_11.out.below hb
  have sR0_12 : Hid (w13.heap[w3.heap.size]? = some (.cells #[.slice sad0_0 d0n0 spd0_0, .slice sad0_1 d0n1 spd0_1, .int .i64 d0v2, .bool d0v3, .slice sad0_4 d0n4 spd0_4] 84)) := get_below hb sR0_11.out (size_of_get sR0_11.out)
  have X0_12 : Hid (w13.heap[w5.heap.size]? = some (.cells #[.slice (some ⟨xy0_0, 0, none⟩) y0n0 y0n0, .slice (some ⟨xy0_1, 0, none⟩) y0n1 y0n1, .int .i64 y0v2, .bool y0v3, .slice (some ⟨xy0_4, 0, none⟩) y0n4 y0n4] 84)) := get_below hb X0_11.out (size_of_get X0_11.out)
  have gd0_0_12 : Hid (OpS w13 gad0_0 d0n0 d0g0_0 d0g0_1 d0g0_2) := gd0_0_11.out.below hb
  have gFd0_0_12 : Hid (d0n0 ≠ 0 → Free w13 gxd0_0) := fun hn => (gFd0_0_11.out hn).below hb (by have := gld0_0 hn; omega)
  have gd0_1_12 : Hid (IntS w13 gad0_1 d0n1 d0g1) := gd0_1_11.out.below hb
  have gFd0_1_12 : Hid (d0n1 ≠ 0 → Free w13 gxd0_1) := fun hn => (gFd0_1_11.out hn).below hb (by have := gld0_1 hn; omega)
  have gd0_4_12 : Hid (IntS w13 gad0_4 d0n4 d0g4) := gd0_4_11.out.below hb
  have gFd0_4_12 : Hid (d0n4 ≠ 0 → Free w13 gxd0_4) := fun hn => (gFd0_4_11.out hn).below hb (by have := gld0_4 hn; omega)
  have gR0_12 : Hid (w13.heap[w8.heap.size]? = some (.cells #[.slice gad0_0 d0n0 gpd0_0, .slice gad0_1 d0n1 gpd0_1, .int .i64 d0v2, .bool d0v3, .slice gad0_4 d0n4 gpd0_4] 84)) := get_below hb gR0_11.out (size_of_get gR0_11.out)
  clear hb
  obtain ⟨qA0_0, qA0_1, qA0_2, qA0_3, qA0_4⟩ := cells5_of A0_12.out
  have qzA0 : w.heap.size < w13.heap.size := size_of_get A0_12.out
  obtain ⟨qsR0_0, qsR0_1, qsR0_2, qsR0_3, qsR0_4⟩ := cells5_of sR0_12.out
  have qzsR0 : w3.heap.size < w13.heap.size := size_of_get sR0_12.out
  obtain ⟨qX0_0, qX0_1, qX0_2, qX0_3, qX0_4⟩ := cells5_of X0_12.out
  have qzX0 : w5.heap.size < w13.heap.size := size_of_get X0_12.out
  obtain ⟨qgR0_0, qgR0_1, qgR0_2, qgR0_3, qgR0_4⟩ := cells5_of gR0_12.out
  have qzgR0 : w8.heap.size < w13.heap.size := size_of_get gR0_12.out
  go_wp2_with fail
  clear qA0_0 qA0_1 qA0_2 qA0_3 qA0_4 qzA0 qsR0_0 qsR0_1 qsR0_2 qsR0_3 qsR0_4 qzsR0 qX0_0 qX0_1 qX0_2 qX0_3 qX0_4 qzX0 qgR0_0 qgR0_1 qgR0_2 qgR0_3 qgR0_4 qzgR0
  refine (markPart_any gad0_0 d0n0 gpd0_0 d0g0_0 d0g0_1 d0g0_2 gad0_1 d0n1 gpd0_1 d0g1 d0v2 d0v3 gad0_4 d0n4 gpd0_4 d0g4 gxd0_0 gxd0_1 gxd0_4 (1) _ (by omega) (by omega) (by omega) (by omega) (by omega) gd0_0_12.out gd0_1_12.out gd0_4_12.out gid0_0 gid0_1 gid0_4 gFd0_0_12.out gFd0_1_12.out gFd0_4_12.out (fun hz => by have := gld0_0 hz; omega) (fun hz => by have := gld0_1 hz; omega) (fun hz => by have := gld0_4 hz; omega) gdd0_0_d0_1 gdd0_0_d0_4 gdd0_1_d0_4).mono ?_
  rintro e w14 ⟨rfl, ⟨hmkd0_0, hmkd0_1, hmkd0_4⟩, ho⟩
  have hs_13 : w13.heap.size ≤ w14.heap.size := ho.size
  have B_13 : Hid (Below w.heap.size w w14) := Off.below B_12.out ho B_12.out.size (app_ge (own_ge fun hz => by have := gld0_0 hz; omega) (app_ge (own_ge fun hz => by have := gld0_1 hz; omega) (own_ge fun hz => by have := gld0_4 hz; omega)))
  have A0_13 : Hid (w14.heap[w.heap.size]? = some (.cells #[.slice y0a0 y0n0 y0p0, .slice y0a1 y0n1 y0p1, .int .i64 y0v2, .bool y0v3, .slice y0a4 y0n4 y0p4] 80)) := ho.get A0_12.out (own_app (own_ne fun hz => by have := gld0_0 hz; omega) (own_app (own_ne fun hz => by have := gld0_1 hz; omega) (own_ne fun hz => by have := gld0_4 hz; omega)))
  have sd0_0_13 : Hid (OpS w14 sad0_0 d0n0 d0g0_0 d0g0_1 d0g0_2) := sd0_0_12.out.off hsid0_0 ho (fun hn => (own_app (own_ne fun hz => by have := gld0_0 hz; have := hsld0_0 hn; omega) (own_app (own_ne fun hz => by have := gld0_1 hz; have := hsld0_0 hn; omega) (own_ne fun hz => by have := gld0_4 hz; have := hsld0_0 hn; omega))))
  have sd0_1_13 : Hid (IntS w14 sad0_1 d0n1 d0g1) := sd0_1_12.out.off hsid0_1 ho (fun hn => (own_app (own_ne fun hz => by have := gld0_0 hz; have := hsld0_1 hn; omega) (own_app (own_ne fun hz => by have := gld0_1 hz; have := hsld0_1 hn; omega) (own_ne fun hz => by have := gld0_4 hz; have := hsld0_1 hn; omega))))
  have sd0_4_13 : Hid (IntS w14 sad0_4 d0n4 d0g4) := sd0_4_12.out.off hsid0_4 ho (fun hn => (own_app (own_ne fun hz => by have := gld0_0 hz; have := hsld0_4 hn; omega) (own_app (own_ne fun hz => by have := gld0_1 hz; have := hsld0_4 hn; omega) (own_ne fun hz => by have := gld0_4 hz; have := hsld0_4 hn; omega))))
  have sR0_13 : Hid (w14.heap[w3.heap.size]? = some (.cells #[.slice sad0_0 d0n0 spd0_0, .slice sad0_1 d0n1 spd0_1, .int .i64 d0v2, .bool d0v3, .slice sad0_4 d0n4 spd0_4] 84)) := ho.get sR0_12.out (own_app (own_ne fun hz => by have := gld0_0 hz; omega) (own_app (own_ne fun hz => by have := gld0_1 hz; omega) (own_ne fun hz => by have := gld0_4 hz; omega)))
  have X0_13 : Hid (w14.heap[w5.heap.size]? = some (.cells #[.slice (some ⟨xy0_0, 0, none⟩) y0n0 y0n0, .slice (some ⟨xy0_1, 0, none⟩) y0n1 y0n1, .int .i64 y0v2, .bool y0v3, .slice (some ⟨xy0_4, 0, none⟩) y0n4 y0n4] 84)) := ho.get X0_12.out (own_app (own_ne fun hz => by have := gld0_0 hz; omega) (own_app (own_ne fun hz => by have := gld0_1 hz; omega) (own_ne fun hz => by have := gld0_4 hz; omega)))
  have gR0_13 : Hid (w14.heap[w8.heap.size]? = some (.cells #[.slice gad0_0 d0n0 gpd0_0, .slice gad0_1 d0n1 gpd0_1, .int .i64 d0v2, .bool d0v3, .slice gad0_4 d0n4 gpd0_4] 84)) := ho.get gR0_12.out (own_app (own_ne fun hz => by have := gld0_0 hz; omega) (own_app (own_ne fun hz => by have := gld0_1 hz; omega) (own_ne fun hz => by have := gld0_4 hz; omega)))
  clear ho
  have md0_0_13 : Hid (OpS w14 gad0_0 d0n0 (mkOp_0 (1)) (mkOp_1 (1)) (mkOp_2 (1))) := hmkd0_0
  clear hmkd0_0
  have md0_1_13 : Hid (IntS w14 gad0_1 d0n1 (mkInt_0 (1 + 3 * d0n0))) := hmkd0_1
  clear hmkd0_1
  have md0_4_13 : Hid (IntS w14 gad0_4 d0n4 (mkInt_0 (1 + 3 * d0n0 + d0n1))) := hmkd0_4
  clear hmkd0_4
  obtain ⟨qA0_0, qA0_1, qA0_2, qA0_3, qA0_4⟩ := cells5_of A0_13.out
  have qzA0 : w.heap.size < w14.heap.size := size_of_get A0_13.out
  obtain ⟨qsR0_0, qsR0_1, qsR0_2, qsR0_3, qsR0_4⟩ := cells5_of sR0_13.out
  have qzsR0 : w3.heap.size < w14.heap.size := size_of_get sR0_13.out
  obtain ⟨qX0_0, qX0_1, qX0_2, qX0_3, qX0_4⟩ := cells5_of X0_13.out
  have qzX0 : w5.heap.size < w14.heap.size := size_of_get X0_13.out
  obtain ⟨qgR0_0, qgR0_1, qgR0_2, qgR0_3, qgR0_4⟩ := cells5_of gR0_13.out
  have qzgR0 : w8.heap.size < w14.heap.size := size_of_get gR0_13.out
  go_wp2_with fail
  clear qA0_0 qA0_1 qA0_2 qA0_3 qA0_4 qzA0 qsR0_0 qsR0_1 qsR0_2 qsR0_3 qsR0_4 qzsR0 qX0_0 qX0_1 qX0_2 qX0_3 qX0_4 qzX0 qgR0_0 qgR0_1 qgR0_2 qgR0_3 qgR0_4 qzgR0
  refine (heldPart_any gad0_0 d0n0 gpd0_0 gad0_1 d0n1 gpd0_1 d0v2 d0v3 gad0_4 d0n4 gpd0_4 (1) _ (by omega) (by omega) (by omega) (by omega) (by omega) md0_0_13.out md0_1_13.out md0_4_13.out).mono ?_
  rintro e w15 ⟨rfl, hb⟩
  have hs_14 : w14.heap.size ≤ w15.heap.size := hb.size
  have B_14 : Hid (Below w.heap.size w w15) := B_13.out.trans (hb.mono B_13.out.size)
  have A0_14 : Hid (w15.heap[w.heap.size]? = some (.cells #[.slice y0a0 y0n0 y0p0, .slice y0a1 y0n1 y0p1, .int .i64 y0v2, .bool y0v3, .slice y0a4 y0n4 y0p4] 80)) := get_below hb A0_13.out (size_of_get A0_13.out)
  have sd0_0_14 : Hid (OpS w15 sad0_0 d0n0 d0g0_0 d0g0_1 d0g0_2) := sd0_0_13.out.below hb
  have sd0_1_14 : Hid (IntS w15 sad0_1 d0n1 d0g1) := sd0_1_13.out.below hb
  have sd0_4_14 : Hid (IntS w15 sad0_4 d0n4 d0g4) := sd0_4_13.out.below hb
  have sR0_14 : Hid (w15.heap[w3.heap.size]? = some (.cells #[.slice sad0_0 d0n0 spd0_0, .slice sad0_1 d0n1 spd0_1, .int .i64 d0v2, .bool d0v3, .slice sad0_4 d0n4 spd0_4] 84)) := get_below hb sR0_13.out (size_of_get sR0_13.out)
  have X0_14 : Hid (w15.heap[w5.heap.size]? = some (.cells #[.slice (some ⟨xy0_0, 0, none⟩) y0n0 y0n0, .slice (some ⟨xy0_1, 0, none⟩) y0n1 y0n1, .int .i64 y0v2, .bool y0v3, .slice (some ⟨xy0_4, 0, none⟩) y0n4 y0n4] 84)) := get_below hb X0_13.out (size_of_get X0_13.out)
  have gR0_14 : Hid (w15.heap[w8.heap.size]? = some (.cells #[.slice gad0_0 d0n0 gpd0_0, .slice gad0_1 d0n1 gpd0_1, .int .i64 d0v2, .bool d0v3, .slice gad0_4 d0n4 gpd0_4] 84)) := get_below hb gR0_13.out (size_of_get gR0_13.out)
  have md0_0_14 : Hid (OpS w15 gad0_0 d0n0 (mkOp_0 (1)) (mkOp_1 (1)) (mkOp_2 (1))) := md0_0_13.out.below hb
  have md0_1_14 : Hid (IntS w15 gad0_1 d0n1 (mkInt_0 (1 + 3 * d0n0))) := md0_1_13.out.below hb
  have md0_4_14 : Hid (IntS w15 gad0_4 d0n4 (mkInt_0 (1 + 3 * d0n0 + d0n1))) := md0_4_13.out.below hb
  clear hb
  have hqp_w15 : ¬ 1 + 3 * d0n0 + d0n1 + d0n4 < 0 := by omega
  obtain ⟨qA0_0, qA0_1, qA0_2, qA0_3, qA0_4⟩ := cells5_of A0_14.out
  have qzA0 : w.heap.size < w15.heap.size := size_of_get A0_14.out
  obtain ⟨qsR0_0, qsR0_1, qsR0_2, qsR0_3, qsR0_4⟩ := cells5_of sR0_14.out
  have qzsR0 : w3.heap.size < w15.heap.size := size_of_get sR0_14.out
  obtain ⟨qX0_0, qX0_1, qX0_2, qX0_3, qX0_4⟩ := cells5_of X0_14.out
  have qzX0 : w5.heap.size < w15.heap.size := size_of_get X0_14.out
  obtain ⟨qgR0_0, qgR0_1, qgR0_2, qgR0_3, qgR0_4⟩ := cells5_of gR0_14.out
  have qzgR0 : w8.heap.size < w15.heap.size := size_of_get gR0_14.out
  go_wp2_with fail
  clear qA0_0 qA0_1 qA0_2 qA0_3 qA0_4 qzA0 qsR0_0 qsR0_1 qsR0_2 qsR0_3 qsR0_4 qzsR0 qX0_0 qX0_1 qX0_2 qX0_3 qX0_4 qzX0 qgR0_0 qgR0_1 qgR0_2 qgR0_3 qgR0_4 qzgR0
  refine (toPart_anyf y0a0 y0n0 y0p0 y0g0_0 y0g0_1 y0g0_2 y0a1 y0n1 y0p1 y0g1 y0v2 y0v3 y0a4 y0n4 y0p4 y0g4 _ hmy0_0 hmy0_1 hmy0_4 (HAy0_0.out.below B_14.out) (HAy0_1.out.below B_14.out) (HAy0_4.out.below B_14.out)).mono ?_
  rintro e w16 ⟨cy0_0, cy0_1, cy0_4, hord, rfl, ⟨hty0_0, hty0_1, hty0_4, hfzy0_0, hfzy0_1, hfzy0_4⟩, hb⟩
  have hs_15 : w15.heap.size ≤ w16.heap.size := hb.size
  have B_15 : Hid (Below w.heap.size w w16) := B_14.out.trans (hb.mono B_14.out.size)
  have A0_15 : Hid (w16.heap[w.heap.size]? = some (.cells #[.slice y0a0 y0n0 y0p0, .slice y0a1 y0n1 y0p1, .int .i64 y0v2, .bool y0v3, .slice y0a4 y0n4 y0p4] 80)) := get_below hb A0_14.out (size_of_get A0_14.out)
  have sd0_0_15 : Hid (OpS w16 sad0_0 d0n0 d0g0_0 d0g0_1 d0g0_2) := sd0_0_14.out.below hb
  have sd0_1_15 : Hid (IntS w16 sad0_1 d0n1 d0g1) := sd0_1_14.out.below hb
  have sd0_4_15 : Hid (IntS w16 sad0_4 d0n4 d0g4) := sd0_4_14.out.below hb
  have sR0_15 : Hid (w16.heap[w3.heap.size]? = some (.cells #[.slice sad0_0 d0n0 spd0_0, .slice sad0_1 d0n1 spd0_1, .int .i64 d0v2, .bool d0v3, .slice sad0_4 d0n4 spd0_4] 84)) := get_below hb sR0_14.out (size_of_get sR0_14.out)
  have X0_15 : Hid (w16.heap[w5.heap.size]? = some (.cells #[.slice (some ⟨xy0_0, 0, none⟩) y0n0 y0n0, .slice (some ⟨xy0_1, 0, none⟩) y0n1 y0n1, .int .i64 y0v2, .bool y0v3, .slice (some ⟨xy0_4, 0, none⟩) y0n4 y0n4] 84)) := get_below hb X0_14.out (size_of_get X0_14.out)
  have gR0_15 : Hid (w16.heap[w8.heap.size]? = some (.cells #[.slice gad0_0 d0n0 gpd0_0, .slice gad0_1 d0n1 gpd0_1, .int .i64 d0v2, .bool d0v3, .slice gad0_4 d0n4 gpd0_4] 84)) := get_below hb gR0_14.out (size_of_get gR0_14.out)
  have md0_0_15 : Hid (OpS w16 gad0_0 d0n0 (mkOp_0 (1)) (mkOp_1 (1)) (mkOp_2 (1))) := md0_0_14.out.below hb
  have md0_1_15 : Hid (IntS w16 gad0_1 d0n1 (mkInt_0 (1 + 3 * d0n0))) := md0_1_14.out.below hb
  have md0_4_15 : Hid (IntS w16 gad0_4 d0n4 (mkInt_0 (1 + 3 * d0n0 + d0n1))) := md0_4_14.out.below hb
  have hoc0 := hord
  clear hord hb
  have cy0_0_15 : Hid (OpS w16 (some ⟨cy0_0, 0, none⟩) y0n0 y0g0_0 y0g0_1 y0g0_2) := hty0_0
  have lxcy0_0 : y0n0 ≠ 0 → w.heap.size ≤ cy0_0 ∧ cy0_0 < w16.heap.size := fun _ => by have := (B_15.out).size; have := (hoc0); omega
  have cy0_1_15 : Hid (IntS w16 (some ⟨cy0_1, 0, none⟩) y0n1 y0g1) := hty0_1
  have lxcy0_1 : y0n1 ≠ 0 → w.heap.size ≤ cy0_1 ∧ cy0_1 < w16.heap.size := fun _ => by have := (B_15.out).size; have := (hoc0); omega
  have cy0_4_15 : Hid (IntS w16 (some ⟨cy0_4, 0, none⟩) y0n4 y0g4) := hty0_4
  have lxcy0_4 : y0n4 ≠ 0 → w.heap.size ≤ cy0_4 ∧ cy0_4 < w16.heap.size := fun _ => by have := (B_15.out).size; have := (hoc0); omega
  clear hfzy0_0 hfzy0_1 hfzy0_4
  clear hty0_0 hty0_1 hty0_4
  obtain ⟨qA0_0, qA0_1, qA0_2, qA0_3, qA0_4⟩ := cells5_of A0_15.out
  have qzA0 : w.heap.size < w16.heap.size := size_of_get A0_15.out
  obtain ⟨qsR0_0, qsR0_1, qsR0_2, qsR0_3, qsR0_4⟩ := cells5_of sR0_15.out
  have qzsR0 : w3.heap.size < w16.heap.size := size_of_get sR0_15.out
  obtain ⟨qX0_0, qX0_1, qX0_2, qX0_3, qX0_4⟩ := cells5_of X0_15.out
  have qzX0 : w5.heap.size < w16.heap.size := size_of_get X0_15.out
  obtain ⟨qgR0_0, qgR0_1, qgR0_2, qgR0_3, qgR0_4⟩ := cells5_of gR0_15.out
  have qzgR0 : w8.heap.size < w16.heap.size := size_of_get gR0_15.out
  go_wp2_with fail
  clear qA0_0 qA0_1 qA0_2 qA0_3 qA0_4 qzA0 qsR0_0 qsR0_1 qsR0_2 qsR0_3 qsR0_4 qzsR0 qX0_0 qX0_1 qX0_2 qX0_3 qX0_4 qzX0 qgR0_0 qgR0_1 qgR0_2 qgR0_3 qgR0_4 qzgR0
  refine (HIM.out cy0_0 cy0_1 cy0_4 _ hmy0_0 hmy0_1 hmy0_4 cy0_0_15.out cy0_1_15.out cy0_4_15.out).mono ?_
  rintro e w17 ⟨had0_0, hpd0_0, hxd0_0, had0_1, hpd0_1, hxd0_1, had0_4, hpd0_4, hxd0_4, rfl, ⟨hqd0_0, hqd0_1, hqd0_4, hqid0_0, hqld0_0, hqfd0_0, hqid0_1, hqld0_1, hqfd0_1, hqid0_4, hqld0_4, hqfd0_4, hqdd0_0_d0_1, hqdd0_0_d0_4, hqdd0_1_d0_4⟩, hb⟩
  have hs_16 : w16.heap.size ≤ w17.heap.size := hb.size
  have B_16 : Hid (Below w.heap.size w w17) := B_15.out.trans (hb.mono B_15.out.size)
  have A0_16 : Hid (w17.heap[w.heap.size]? = some (.cells #[.slice y0a0 y0n0 y0p0, .slice y0a1 y0n1 y0p1, .int .i64 y0v2, .bool y0v3, .slice y0a4 y0n4 y0p4] 80)) := get_below hb A0_15.out (size_of_get A0_15.out)
  have sd0_0_16 : Hid (OpS w17 sad0_0 d0n0 d0g0_0 d0g0_1 d0g0_2) := sd0_0_15.out.below hb
  have sd0_1_16 : Hid (IntS w17 sad0_1 d0n1 d0g1) := sd0_1_15.out.below hb
  have sd0_4_16 : Hid (IntS w17 sad0_4 d0n4 d0g4) := sd0_4_15.out.below hb
  have sR0_16 : Hid (w17.heap[w3.heap.size]? = some (.cells #[.slice sad0_0 d0n0 spd0_0, .slice sad0_1 d0n1 spd0_1, .int .i64 d0v2, .bool d0v3, .slice sad0_4 d0n4 spd0_4] 84)) := get_below hb sR0_15.out (size_of_get sR0_15.out)
  have X0_16 : Hid (w17.heap[w5.heap.size]? = some (.cells #[.slice (some ⟨xy0_0, 0, none⟩) y0n0 y0n0, .slice (some ⟨xy0_1, 0, none⟩) y0n1 y0n1, .int .i64 y0v2, .bool y0v3, .slice (some ⟨xy0_4, 0, none⟩) y0n4 y0n4] 84)) := get_below hb X0_15.out (size_of_get X0_15.out)
  have gR0_16 : Hid (w17.heap[w8.heap.size]? = some (.cells #[.slice gad0_0 d0n0 gpd0_0, .slice gad0_1 d0n1 gpd0_1, .int .i64 d0v2, .bool d0v3, .slice gad0_4 d0n4 gpd0_4] 84)) := get_below hb gR0_15.out (size_of_get gR0_15.out)
  have md0_0_16 : Hid (OpS w17 gad0_0 d0n0 (mkOp_0 (1)) (mkOp_1 (1)) (mkOp_2 (1))) := md0_0_15.out.below hb
  have md0_1_16 : Hid (IntS w17 gad0_1 d0n1 (mkInt_0 (1 + 3 * d0n0))) := md0_1_15.out.below hb
  have md0_4_16 : Hid (IntS w17 gad0_4 d0n4 (mkInt_0 (1 + 3 * d0n0 + d0n1))) := md0_4_15.out.below hb
  have cy0_0_16 : Hid (OpS w17 (some ⟨cy0_0, 0, none⟩) y0n0 y0g0_0 y0g0_1 y0g0_2) := cy0_0_15.out.below hb
  have cy0_1_16 : Hid (IntS w17 (some ⟨cy0_1, 0, none⟩) y0n1 y0g1) := cy0_1_15.out.below hb
  have cy0_4_16 : Hid (IntS w17 (some ⟨cy0_4, 0, none⟩) y0n4 y0g4) := cy0_4_15.out.below hb
  clear hb
  have hld0_0 := hqld0_0
  have hid0_0 := hqid0_0
  have hd0_0_16 : Hid (OpS w17 had0_0 d0n0 d0g0_0 d0g0_1 d0g0_2) := hqd0_0
  have hFd0_0_16 : Hid (d0n0 ≠ 0 → Free w17 hxd0_0) := hqfd0_0
  clear hqd0_0 hqfd0_0 hqld0_0 hqid0_0
  have hld0_1 := hqld0_1
  have hid0_1 := hqid0_1
  have hd0_1_16 : Hid (IntS w17 had0_1 d0n1 d0g1) := hqd0_1
  have hFd0_1_16 : Hid (d0n1 ≠ 0 → Free w17 hxd0_1) := hqfd0_1
  clear hqd0_1 hqfd0_1 hqld0_1 hqid0_1
  have hld0_4 := hqld0_4
  have hid0_4 := hqid0_4
  have hd0_4_16 : Hid (IntS w17 had0_4 d0n4 d0g4) := hqd0_4
  have hFd0_4_16 : Hid (d0n4 ≠ 0 → Free w17 hxd0_4) := hqfd0_4
  clear hqd0_4 hqfd0_4 hqld0_4 hqid0_4
  have hdd0_0_d0_1 := hqdd0_0_d0_1
  clear hqdd0_0_d0_1
  have hdd0_0_d0_4 := hqdd0_0_d0_4
  clear hqdd0_0_d0_4
  have hdd0_1_d0_4 := hqdd0_1_d0_4
  clear hqdd0_1_d0_4
  have hs_17 : w17.heap.size ≤ (w17.alloc (.cells #[.slice had0_0 d0n0 hpd0_0, .slice had0_1 d0n1 hpd0_1, .int .i64 d0v2, .bool d0v3, .slice had0_4 d0n4 hpd0_4] 84)).heap.size := ((Below.refl _ _).alloc (Nat.le_refl _) _ : Below w17.heap.size w17 (w17.alloc (.cells #[.slice had0_0 d0n0 hpd0_0, .slice had0_1 d0n1 hpd0_1, .int .i64 d0v2, .bool d0v3, .slice had0_4 d0n4 hpd0_4] 84))).size
  have B_17 : Hid (Below w.heap.size w (w17.alloc (.cells #[.slice had0_0 d0n0 hpd0_0, .slice had0_1 d0n1 hpd0_1, .int .i64 d0v2, .bool d0v3, .slice had0_4 d0n4 hpd0_4] 84))) := B_16.out.trans (((Below.refl _ _).alloc (Nat.le_refl _) _ : Below w17.heap.size w17 (w17.alloc (.cells #[.slice had0_0 d0n0 hpd0_0, .slice had0_1 d0n1 hpd0_1, .int .i64 d0v2, .bool d0v3, .slice had0_4 d0n4 hpd0_4] 84))).mono B_16.out.size)
  have A0_17 : Hid ((w17.alloc (.cells #[.slice had0_0 d0n0 hpd0_0, .slice had0_1 d0n1 hpd0_1, .int .i64 d0v2, .bool d0v3, .slice had0_4 d0n4 hpd0_4] 84)).heap[w.heap.size]? = some (.cells #[.slice y0a0 y0n0 y0p0, .slice y0a1 y0n1 y0p1, .int .i64 y0v2, .bool y0v3, .slice y0a4 y0n4 y0p4] 80)) := get_below ((Below.refl _ _).alloc (Nat.le_refl _) _ : Below w17.heap.size w17 (w17.alloc (.cells #[.slice had0_0 d0n0 hpd0_0, .slice had0_1 d0n1 hpd0_1, .int .i64 d0v2, .bool d0v3, .slice had0_4 d0n4 hpd0_4] 84))) A0_16.out (size_of_get A0_16.out)
  have sd0_0_17 : Hid (OpS (w17.alloc (.cells #[.slice had0_0 d0n0 hpd0_0, .slice had0_1 d0n1 hpd0_1, .int .i64 d0v2, .bool d0v3, .slice had0_4 d0n4 hpd0_4] 84)) sad0_0 d0n0 d0g0_0 d0g0_1 d0g0_2) := sd0_0_16.out.below ((Below.refl _ _).alloc (Nat.le_refl _) _ : Below w17.heap.size w17 (w17.alloc (.cells #[.slice had0_0 d0n0 hpd0_0, .slice had0_1 d0n1 hpd0_1, .int .i64 d0v2, .bool d0v3, .slice had0_4 d0n4 hpd0_4] 84)))
  have sd0_1_17 : Hid (IntS (w17.alloc (.cells #[.slice had0_0 d0n0 hpd0_0, .slice had0_1 d0n1 hpd0_1, .int .i64 d0v2, .bool d0v3, .slice had0_4 d0n4 hpd0_4] 84)) sad0_1 d0n1 d0g1) := sd0_1_16.out.below ((Below.refl _ _).alloc (Nat.le_refl _) _ : Below w17.heap.size w17 (w17.alloc (.cells #[.slice had0_0 d0n0 hpd0_0, .slice had0_1 d0n1 hpd0_1, .int .i64 d0v2, .bool d0v3, .slice had0_4 d0n4 hpd0_4] 84)))
  have sd0_4_17 : Hid (IntS (w17.alloc (.cells #[.slice had0_0 d0n0 hpd0_0, .slice had0_1 d0n1 hpd0_1, .int .i64 d0v2, .bool d0v3, .slice had0_4 d0n4 hpd0_4] 84)) sad0_4 d0n4 d0g4) := sd0_4_16.out.below ((Below.refl _ _).alloc (Nat.le_refl _) _ : Below w17.heap.size w17 (w17.alloc (.cells #[.slice had0_0 d0n0 hpd0_0, .slice had0_1 d0n1 hpd0_1, .int .i64 d0v2, .bool d0v3, .slice had0_4 d0n4 hpd0_4] 84)))
  have sR0_17 : Hid ((w17.alloc (.cells #[.slice had0_0 d0n0 hpd0_0, .slice had0_1 d0n1 hpd0_1, .int .i64 d0v2, .bool d0v3, .slice had0_4 d0n4 hpd0_4] 84)).heap[w3.heap.size]? = some (.cells #[.slice sad0_0 d0n0 spd0_0, .slice sad0_1 d0n1 spd0_1, .int .i64 d0v2, .bool d0v3, .slice sad0_4 d0n4 spd0_4] 84)) := get_below ((Below.refl _ _).alloc (Nat.le_refl _) _ : Below w17.heap.size w17 (w17.alloc (.cells #[.slice had0_0 d0n0 hpd0_0, .slice had0_1 d0n1 hpd0_1, .int .i64 d0v2, .bool d0v3, .slice had0_4 d0n4 hpd0_4] 84))) sR0_16.out (size_of_get sR0_16.out)
  have X0_17 : Hid ((w17.alloc (.cells #[.slice had0_0 d0n0 hpd0_0, .slice had0_1 d0n1 hpd0_1, .int .i64 d0v2, .bool d0v3, .slice had0_4 d0n4 hpd0_4] 84)).heap[w5.heap.size]? = some (.cells #[.slice (some ⟨xy0_0, 0, none⟩) y0n0 y0n0, .slice (some ⟨xy0_1, 0, none⟩) y0n1 y0n1, .int .i64 y0v2, .bool y0v3, .slice (some ⟨xy0_4, 0, none⟩) y0n4 y0n4] 84)) := get_below ((Below.refl _ _).alloc (Nat.le_refl _) _ : Below w17.heap.size w17 (w17.alloc (.cells #[.slice had0_0 d0n0 hpd0_0, .slice had0_1 d0n1 hpd0_1, .int .i64 d0v2, .bool d0v3, .slice had0_4 d0n4 hpd0_4] 84))) X0_16.out (size_of_get X0_16.out)
  have gR0_17 : Hid ((w17.alloc (.cells #[.slice had0_0 d0n0 hpd0_0, .slice had0_1 d0n1 hpd0_1, .int .i64 d0v2, .bool d0v3, .slice had0_4 d0n4 hpd0_4] 84)).heap[w8.heap.size]? = some (.cells #[.slice gad0_0 d0n0 gpd0_0, .slice gad0_1 d0n1 gpd0_1, .int .i64 d0v2, .bool d0v3, .slice gad0_4 d0n4 gpd0_4] 84)) := get_below ((Below.refl _ _).alloc (Nat.le_refl _) _ : Below w17.heap.size w17 (w17.alloc (.cells #[.slice had0_0 d0n0 hpd0_0, .slice had0_1 d0n1 hpd0_1, .int .i64 d0v2, .bool d0v3, .slice had0_4 d0n4 hpd0_4] 84))) gR0_16.out (size_of_get gR0_16.out)
  have md0_0_17 : Hid (OpS (w17.alloc (.cells #[.slice had0_0 d0n0 hpd0_0, .slice had0_1 d0n1 hpd0_1, .int .i64 d0v2, .bool d0v3, .slice had0_4 d0n4 hpd0_4] 84)) gad0_0 d0n0 (mkOp_0 (1)) (mkOp_1 (1)) (mkOp_2 (1))) := md0_0_16.out.below ((Below.refl _ _).alloc (Nat.le_refl _) _ : Below w17.heap.size w17 (w17.alloc (.cells #[.slice had0_0 d0n0 hpd0_0, .slice had0_1 d0n1 hpd0_1, .int .i64 d0v2, .bool d0v3, .slice had0_4 d0n4 hpd0_4] 84)))
  have md0_1_17 : Hid (IntS (w17.alloc (.cells #[.slice had0_0 d0n0 hpd0_0, .slice had0_1 d0n1 hpd0_1, .int .i64 d0v2, .bool d0v3, .slice had0_4 d0n4 hpd0_4] 84)) gad0_1 d0n1 (mkInt_0 (1 + 3 * d0n0))) := md0_1_16.out.below ((Below.refl _ _).alloc (Nat.le_refl _) _ : Below w17.heap.size w17 (w17.alloc (.cells #[.slice had0_0 d0n0 hpd0_0, .slice had0_1 d0n1 hpd0_1, .int .i64 d0v2, .bool d0v3, .slice had0_4 d0n4 hpd0_4] 84)))
  have md0_4_17 : Hid (IntS (w17.alloc (.cells #[.slice had0_0 d0n0 hpd0_0, .slice had0_1 d0n1 hpd0_1, .int .i64 d0v2, .bool d0v3, .slice had0_4 d0n4 hpd0_4] 84)) gad0_4 d0n4 (mkInt_0 (1 + 3 * d0n0 + d0n1))) := md0_4_16.out.below ((Below.refl _ _).alloc (Nat.le_refl _) _ : Below w17.heap.size w17 (w17.alloc (.cells #[.slice had0_0 d0n0 hpd0_0, .slice had0_1 d0n1 hpd0_1, .int .i64 d0v2, .bool d0v3, .slice had0_4 d0n4 hpd0_4] 84)))
  have hd0_0_17 : Hid (OpS (w17.alloc (.cells #[.slice had0_0 d0n0 hpd0_0, .slice had0_1 d0n1 hpd0_1, .int .i64 d0v2, .bool d0v3, .slice had0_4 d0n4 hpd0_4] 84)) had0_0 d0n0 d0g0_0 d0g0_1 d0g0_2) := hd0_0_16.out.below ((Below.refl _ _).alloc (Nat.le_refl _) _ : Below w17.heap.size w17 (w17.alloc (.cells #[.slice had0_0 d0n0 hpd0_0, .slice had0_1 d0n1 hpd0_1, .int .i64 d0v2, .bool d0v3, .slice had0_4 d0n4 hpd0_4] 84)))
  have hd0_1_17 : Hid (IntS (w17.alloc (.cells #[.slice had0_0 d0n0 hpd0_0, .slice had0_1 d0n1 hpd0_1, .int .i64 d0v2, .bool d0v3, .slice had0_4 d0n4 hpd0_4] 84)) had0_1 d0n1 d0g1) := hd0_1_16.out.below ((Below.refl _ _).alloc (Nat.le_refl _) _ : Below w17.heap.size w17 (w17.alloc (.cells #[.slice had0_0 d0n0 hpd0_0, .slice had0_1 d0n1 hpd0_1, .int .i64 d0v2, .bool d0v3, .slice had0_4 d0n4 hpd0_4] 84)))
  have hd0_4_17 : Hid (IntS (w17.alloc (.cells #[.slice had0_0 d0n0 hpd0_0, .slice had0_1 d0n1 hpd0_1, .int .i64 d0v2, .bool d0v3, .slice had0_4 d0n4 hpd0_4] 84)) had0_4 d0n4 d0g4) := hd0_4_16.out.below ((Below.refl _ _).alloc (Nat.le_refl _) _ : Below w17.heap.size w17 (w17.alloc (.cells #[.slice had0_0 d0n0 hpd0_0, .slice had0_1 d0n1 hpd0_1, .int .i64 d0v2, .bool d0v3, .slice had0_4 d0n4 hpd0_4] 84)))
  have hR0_17 : Hid ((w17.alloc (.cells #[.slice had0_0 d0n0 hpd0_0, .slice had0_1 d0n1 hpd0_1, .int .i64 d0v2, .bool d0v3, .slice had0_4 d0n4 hpd0_4] 84)).heap[w17.heap.size]? = some (.cells #[.slice had0_0 d0n0 hpd0_0, .slice had0_1 d0n1 hpd0_1, .int .i64 d0v2, .bool d0v3, .slice had0_4 d0n4 hpd0_4] 84)) := get_new rfl
  have hz_17 : w17.heap.size < (w17.alloc (.cells #[.slice had0_0 d0n0 hpd0_0, .slice had0_1 d0n1 hpd0_1, .int .i64 d0v2, .bool d0v3, .slice had0_4 d0n4 hpd0_4] 84)).heap.size := by simp
  obtain ⟨qA0_0, qA0_1, qA0_2, qA0_3, qA0_4⟩ := cells5_of A0_16.out
  have qzA0 : w.heap.size < w17.heap.size := size_of_get A0_16.out
  obtain ⟨qsR0_0, qsR0_1, qsR0_2, qsR0_3, qsR0_4⟩ := cells5_of sR0_16.out
  have qzsR0 : w3.heap.size < w17.heap.size := size_of_get sR0_16.out
  obtain ⟨qX0_0, qX0_1, qX0_2, qX0_3, qX0_4⟩ := cells5_of X0_16.out
  have qzX0 : w5.heap.size < w17.heap.size := size_of_get X0_16.out
  obtain ⟨qgR0_0, qgR0_1, qgR0_2, qgR0_3, qgR0_4⟩ := cells5_of gR0_16.out
  have qzgR0 : w8.heap.size < w17.heap.size := size_of_get gR0_16.out
  go_wp2_with fail
  clear qA0_0 qA0_1 qA0_2 qA0_3 qA0_4 qzA0 qsR0_0 qsR0_1 qsR0_2 qsR0_3 qsR0_4 qzsR0 qX0_0 qX0_1 qX0_2 qX0_3 qX0_4 qzX0 qgR0_0 qgR0_1 qgR0_2 qgR0_3 qgR0_4 qzgR0
  generalize (w17.alloc (.cells #[.slice had0_0 d0n0 hpd0_0, .slice had0_1 d0n1 hpd0_1, .int .i64 d0v2, .bool d0v3, .slice had0_4 d0n4 hpd0_4] 84)) = w18 at *
  refine (eqPart_any had0_0 d0n0 hpd0_0 d0g0_0 d0g0_1 d0g0_2 had0_1 d0n1 hpd0_1 d0g1 d0v2 d0v3 had0_4 d0n4 hpd0_4 d0g4 sad0_0 spd0_0 sad0_1 spd0_1 sad0_4 spd0_4 _ (by unfold maxLen; omega) (by unfold maxLen; omega) (by unfold maxLen; omega) hd0_0_17.out hd0_1_17.out hd0_4_17.out sd0_0_17.out sd0_1_17.out sd0_4_17.out).mono ?_
  rintro e w19 ⟨rfl, hb⟩
  have hs_18 : w18.heap.size ≤ w19.heap.size := hb.size
  have B_18 : Hid (Below w.heap.size w w19) := B_17.out.trans (hb.mono B_17.out.size)
  have A0_18 : Hid (w19.heap[w.heap.size]? = some (.cells #[.slice y0a0 y0n0 y0p0, .slice y0a1 y0n1 y0p1, .int .i64 y0v2, .bool y0v3, .slice y0a4 y0n4 y0p4] 80)) := get_below hb A0_17.out (size_of_get A0_17.out)
  have sd0_0_18 : Hid (OpS w19 sad0_0 d0n0 d0g0_0 d0g0_1 d0g0_2) := sd0_0_17.out.below hb
  have sd0_1_18 : Hid (IntS w19 sad0_1 d0n1 d0g1) := sd0_1_17.out.below hb
  have sd0_4_18 : Hid (IntS w19 sad0_4 d0n4 d0g4) := sd0_4_17.out.below hb
  have sR0_18 : Hid (w19.heap[w3.heap.size]? = some (.cells #[.slice sad0_0 d0n0 spd0_0, .slice sad0_1 d0n1 spd0_1, .int .i64 d0v2, .bool d0v3, .slice sad0_4 d0n4 spd0_4] 84)) := get_below hb sR0_17.out (size_of_get sR0_17.out)
  have X0_18 : Hid (w19.heap[w5.heap.size]? = some (.cells #[.slice (some ⟨xy0_0, 0, none⟩) y0n0 y0n0, .slice (some ⟨xy0_1, 0, none⟩) y0n1 y0n1, .int .i64 y0v2, .bool y0v3, .slice (some ⟨xy0_4, 0, none⟩) y0n4 y0n4] 84)) := get_below hb X0_17.out (size_of_get X0_17.out)
  have gR0_18 : Hid (w19.heap[w8.heap.size]? = some (.cells #[.slice gad0_0 d0n0 gpd0_0, .slice gad0_1 d0n1 gpd0_1, .int .i64 d0v2, .bool d0v3, .slice gad0_4 d0n4 gpd0_4] 84)) := get_below hb gR0_17.out (size_of_get gR0_17.out)
  have md0_0_18 : Hid (OpS w19 gad0_0 d0n0 (mkOp_0 (1)) (mkOp_1 (1)) (mkOp_2 (1))) := md0_0_17.out.below hb
  have md0_1_18 : Hid (IntS w19 gad0_1 d0n1 (mkInt_0 (1 + 3 * d0n0))) := md0_1_17.out.below hb
  have md0_4_18 : Hid (IntS w19 gad0_4 d0n4 (mkInt_0 (1 + 3 * d0n0 + d0n1))) := md0_4_17.out.below hb
  have hd0_0_18 : Hid (OpS w19 had0_0 d0n0 d0g0_0 d0g0_1 d0g0_2) := hd0_0_17.out.below hb
  have hd0_1_18 : Hid (IntS w19 had0_1 d0n1 d0g1) := hd0_1_17.out.below hb
  have hd0_4_18 : Hid (IntS w19 had0_4 d0n4 d0g4) := hd0_4_17.out.below hb
  have hR0_18 : Hid (w19.heap[w17.heap.size]? = some (.cells #[.slice had0_0 d0n0 hpd0_0, .slice had0_1 d0n1 hpd0_1, .int .i64 d0v2, .bool d0v3, .slice had0_4 d0n4 hpd0_4] 84)) := get_below hb hR0_17.out (size_of_get hR0_17.out)
  clear hb
  obtain ⟨qA0_0, qA0_1, qA0_2, qA0_3, qA0_4⟩ := cells5_of A0_18.out
  have qzA0 : w.heap.size < w19.heap.size := size_of_get A0_18.out
  obtain ⟨qsR0_0, qsR0_1, qsR0_2, qsR0_3, qsR0_4⟩ := cells5_of sR0_18.out
  have qzsR0 : w3.heap.size < w19.heap.size := size_of_get sR0_18.out
  obtain ⟨qX0_0, qX0_1, qX0_2, qX0_3, qX0_4⟩ := cells5_of X0_18.out
  have qzX0 : w5.heap.size < w19.heap.size := size_of_get X0_18.out
  obtain ⟨qgR0_0, qgR0_1, qgR0_2, qgR0_3, qgR0_4⟩ := cells5_of gR0_18.out
  have qzgR0 : w8.heap.size < w19.heap.size := size_of_get gR0_18.out
  obtain ⟨qhR0_0, qhR0_1, qhR0_2, qhR0_3, qhR0_4⟩ := cells5_of hR0_18.out
  have qzhR0 : w17.heap.size < w19.heap.size := size_of_get hR0_18.out
  go_wp2_with fail
  clear qA0_0 qA0_1 qA0_2 qA0_3 qA0_4 qzA0 qsR0_0 qsR0_1 qsR0_2 qsR0_3 qsR0_4 qzsR0 qX0_0 qX0_1 qX0_2 qX0_3 qX0_4 qzX0 qgR0_0 qgR0_1 qgR0_2 qgR0_3 qgR0_4 qzgR0 qhR0_0 qhR0_1 qhR0_2 qhR0_3 qhR0_4 qzhR0
  refine (heldPart_any gad0_0 d0n0 gpd0_0 gad0_1 d0n1 gpd0_1 d0v2 d0v3 gad0_4 d0n4 gpd0_4 (1) _ (by omega) (by omega) (by omega) (by omega) (by omega) md0_0_18.out md0_1_18.out md0_4_18.out).mono ?_
  rintro e w20 ⟨rfl, hb⟩
  have hs_19 : w19.heap.size ≤ w20.heap.size := hb.size
  have B_19 : Hid (Below w.heap.size w w20) := B_18.out.trans (hb.mono B_18.out.size)
  have A0_19 : Hid (w20.heap[w.heap.size]? = some (.cells #[.slice y0a0 y0n0 y0p0, .slice y0a1 y0n1 y0p1, .int .i64 y0v2, .bool y0v3, .slice y0a4 y0n4 y0p4] 80)) := get_below hb A0_18.out (size_of_get A0_18.out)
  have sd0_0_19 : Hid (OpS w20 sad0_0 d0n0 d0g0_0 d0g0_1 d0g0_2) := sd0_0_18.out.below hb
  have sd0_1_19 : Hid (IntS w20 sad0_1 d0n1 d0g1) := sd0_1_18.out.below hb
  have sd0_4_19 : Hid (IntS w20 sad0_4 d0n4 d0g4) := sd0_4_18.out.below hb
  have sR0_19 : Hid (w20.heap[w3.heap.size]? = some (.cells #[.slice sad0_0 d0n0 spd0_0, .slice sad0_1 d0n1 spd0_1, .int .i64 d0v2, .bool d0v3, .slice sad0_4 d0n4 spd0_4] 84)) := get_below hb sR0_18.out (size_of_get sR0_18.out)
  have X0_19 : Hid (w20.heap[w5.heap.size]? = some (.cells #[.slice (some ⟨xy0_0, 0, none⟩) y0n0 y0n0, .slice (some ⟨xy0_1, 0, none⟩) y0n1 y0n1, .int .i64 y0v2, .bool y0v3, .slice (some ⟨xy0_4, 0, none⟩) y0n4 y0n4] 84)) := get_below hb X0_18.out (size_of_get X0_18.out)
  have gR0_19 : Hid (w20.heap[w8.heap.size]? = some (.cells #[.slice gad0_0 d0n0 gpd0_0, .slice gad0_1 d0n1 gpd0_1, .int .i64 d0v2, .bool d0v3, .slice gad0_4 d0n4 gpd0_4] 84)) := get_below hb gR0_18.out (size_of_get gR0_18.out)
  have md0_0_19 : Hid (OpS w20 gad0_0 d0n0 (mkOp_0 (1)) (mkOp_1 (1)) (mkOp_2 (1))) := md0_0_18.out.below hb
  have md0_1_19 : Hid (IntS w20 gad0_1 d0n1 (mkInt_0 (1 + 3 * d0n0))) := md0_1_18.out.below hb
  have md0_4_19 : Hid (IntS w20 gad0_4 d0n4 (mkInt_0 (1 + 3 * d0n0 + d0n1))) := md0_4_18.out.below hb
  have hd0_0_19 : Hid (OpS w20 had0_0 d0n0 d0g0_0 d0g0_1 d0g0_2) := hd0_0_18.out.below hb
  have hd0_1_19 : Hid (IntS w20 had0_1 d0n1 d0g1) := hd0_1_18.out.below hb
  have hd0_4_19 : Hid (IntS w20 had0_4 d0n4 d0g4) := hd0_4_18.out.below hb
  have hR0_19 : Hid (w20.heap[w17.heap.size]? = some (.cells #[.slice had0_0 d0n0 hpd0_0, .slice had0_1 d0n1 hpd0_1, .int .i64 d0v2, .bool d0v3, .slice had0_4 d0n4 hpd0_4] 84)) := get_below hb hR0_18.out (size_of_get hR0_18.out)
  clear hb
  have hqp_w20 : ¬ 1 + 3 * d0n0 + d0n1 + d0n4 < 0 := by omega
  obtain ⟨qA0_0, qA0_1, qA0_2, qA0_3, qA0_4⟩ := cells5_of A0_19.out
  have qzA0 : w.heap.size < w20.heap.size := size_of_get A0_19.out
  obtain ⟨qsR0_0, qsR0_1, qsR0_2, qsR0_3, qsR0_4⟩ := cells5_of sR0_19.out
  have qzsR0 : w3.heap.size < w20.heap.size := size_of_get sR0_19.out
  obtain ⟨qX0_0, qX0_1, qX0_2, qX0_3, qX0_4⟩ := cells5_of X0_19.out
  have qzX0 : w5.heap.size < w20.heap.size := size_of_get X0_19.out
  obtain ⟨qgR0_0, qgR0_1, qgR0_2, qgR0_3, qgR0_4⟩ := cells5_of gR0_19.out
  have qzgR0 : w8.heap.size < w20.heap.size := size_of_get gR0_19.out
  obtain ⟨qhR0_0, qhR0_1, qhR0_2, qhR0_3, qhR0_4⟩ := cells5_of hR0_19.out
  have qzhR0 : w17.heap.size < w20.heap.size := size_of_get hR0_19.out
  go_wp2_with fail
  clear qA0_0 qA0_1 qA0_2 qA0_3 qA0_4 qzA0 qsR0_0 qsR0_1 qsR0_2 qsR0_3 qsR0_4 qzsR0 qX0_0 qX0_1 qX0_2 qX0_3 qX0_4 qzX0 qgR0_0 qgR0_1 qgR0_2 qgR0_3 qgR0_4 qzgR0 qhR0_0 qhR0_1 qhR0_2 qhR0_3 qhR0_4 qzhR0
  go_ret
  exact ⟨rfl, B_19.out⟩
end Go.Proofs.Ythhibeepfecmdaa
