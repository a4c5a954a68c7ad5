/- Proved: laws.FnExactQueuePut returns true at every queue and packet (impl.QueuePut answers as spec.QueuePut, writes nothing into what it is given, and its answer owns its memory), and leaves all as it was, given the two sides' contracts. -/
import Derived.Test.YtgejiiaocgacmaaDoorSmQueue
import Derived.Test.YtgejiiaocgacmaaDoorMkString
import Derived.Test.YtgejiiaocgacmaaDoorOgQueue
import Derived.Test.YtgejiiaocgacmaaDoorKeep
import Derived.Test.YtgejiiaocgacmaaDoorCellsN
import Derived.Test.YtgejiiaocgacmaaDoorFrame
import Derived.Test.YtgejiiaocgacmaaDoorEfO
import Derived.Deep.RegionHeld2
namespace Go.Proofs.YtgejiiaocgacmaaDoor
open Go.ChangeShapes Go.WideShapes Go.ChangeAt Go.RowKit
set_option linter.unusedVariables false

open Go.ChangeMaps (open_string shut_string)
set_option maxRecDepth 100000 in
set_option maxHeartbeats 16000000 in
theorem FnExactQueuePut_ow (y0a0 : Option Addr) (y0n0 y0p0 : Nat) (y0g0 : Nat → ByteArray) (y0v1 : Int) (y1v0 : ByteArray) (d0n0 : Nat) (d0g0 : Nat → ByteArray) (d0v1 : Int) (d1v0 : Bool) (w : World) (hxy0_0 : y0n0 ≤ maxLen) (hty0_0 : Txt w y0a0 y0n0 y0g0) (hs1 : y1v0.size ≤ maxLen) (he : Eof w) (hdd0_0 : d0n0 ≤ 2097152)
    (HSP : Hid (∀ (cy0_0 : Nat) (W : World), y0n0 ≤ 1048576 → (∀ i, i < y0n0 → (y0g0 i).size ≤ 1048576) → y1v0.size ≤ 1048576 → Txt W (some ⟨cy0_0, 0, none⟩) y0n0 y0g0 →  Calls Tryd.prog 32 #[.agg #[.slice (some ⟨cy0_0, 0, none⟩) y0n0 y0n0, .int .i64 y0v1], .string y1v0] W fun e w' => ∃ (sad0_0 : Option Addr) (spd0_0 : Nat), e = .returned (.tuple #[.agg #[.slice sad0_0 d0n0 spd0_0, .int .i64 d0v1], .bool d1v0]) ∧ (Txt w' sad0_0 d0n0 d0g0) ∧ Below W.heap.size W w'))
    (HIM : Hid (∀ (cy0_0 : Nat) (W : World), y0n0 ≤ 1048576 → (∀ i, i < y0n0 → (y0g0 i).size ≤ 1048576) → y1v0.size ≤ 1048576 → Txt W (some ⟨cy0_0, 0, none⟩) y0n0 y0g0 → Eof W →  Calls Tryd.prog 33 #[.agg #[.slice (some ⟨cy0_0, 0, none⟩) y0n0 y0n0, .int .i64 y0v1], .string y1v0] W fun e w' => ∃ (gad0_0 : Option Addr) (gpd0_0 : Nat) (gxd0_0 : Nat), e = .returned (.tuple #[.agg #[.slice gad0_0 d0n0 gpd0_0, .int .i64 d0v1], .bool d1v0]) ∧ (Txt w' gad0_0 d0n0 d0g0 ∧ In gxd0_0 gad0_0 d0n0 ∧ (d0n0 ≠ 0 → W.heap.size ≤ gxd0_0 ∧ gxd0_0 < w'.heap.size) ∧ (d0n0 ≠ 0 → Free w' gxd0_0)) ∧ Below W.heap.size W w')) :
    Calls Tryd.prog 8 #[.agg #[.slice y0a0 y0n0 y0p0, .int .i64 y0v1], .string y1v0] w fun e w' => e = .returned (.bool true) ∧ Below w.heap.size w w' := by
  have hs_0 : w.heap.size ≤ (w.alloc (.cells #[.slice y0a0 y0n0 y0p0, .int .i64 y0v1] 42)).heap.size := by simp
  have B_0 : Hid (Below w.heap.size w (w.alloc (.cells #[.slice y0a0 y0n0 y0p0, .int .i64 y0v1] 42))) := (((Below.refl _ _)).alloc (Nat.le_refl _) _)
  have A0_0 : Hid ((w.alloc (.cells #[.slice y0a0 y0n0 y0p0, .int .i64 y0v1] 42)).heap[w.heap.size]? = some (.cells #[.slice y0a0 y0n0 y0p0, .int .i64 y0v1] 42)) := get_new (by simp)
  have hEl := Eof.lt he
  have E_0 : Hid (Eof (w.alloc (.cells #[.slice y0a0 y0n0 y0p0, .int .i64 y0v1] 42))) := Eof.below he (((Below.refl _ _)).alloc (Nat.le_refl _) _)
  have HAy0_0 : Hid (Txt w y0a0 y0n0 y0g0) := hty0_0
  clear hty0_0
  by_cases hbig1 : 1048576 < y1v0.size
  · go_enter Tryd.func8, Tryd.ntmps8
    go_wp2_with fail
    go_ret
    exact ⟨rfl, B_0.out⟩
  have hsc1 : y1v0.size ≤ 1048576 := by omega
  go_enter Tryd.func8, Tryd.ntmps8
  go_wp2_with fail
  refine (szQueuel_any y0a0 y0n0 y0p0 y0g0 y0v1 1048576 _ hxy0_0 (HAy0_0.out.below B_0.out) (by omega) (by omega)).mono ?_
  rintro e w1 ⟨r0, hr0, hs0', rfl, hb⟩
  have hs_1 : (w.alloc (.cells #[.slice y0a0 y0n0 y0p0, .int .i64 y0v1] 42)).heap.size ≤ w1.heap.size := hb.size
  have B_1 : Hid (Below w.heap.size w w1) := B_0.out.trans (hb.mono B_0.out.size)
  have A0_1 : Hid (w1.heap[w.heap.size]? = some (.cells #[.slice y0a0 y0n0 y0p0, .int .i64 y0v1] 42)) := get_below hb A0_0.out (size_of_get A0_0.out)
  have E_1 : Hid (Eof w1) := Eof.below E_0.out hb
  clear hb
  have HR0 : Hid _ := hr0
  clear hr0
  by_cases hneg0 : r0 < 0
  · go_wp2_with fail
    go_ret
    exact ⟨rfl, B_1.out⟩
  have hpos0 : 0 ≤ r0 := by omega
  obtain ⟨hmy0_0, hszy0_0⟩ := HR0.out hpos0
  obtain ⟨qA0_0, qA0_1⟩ := cells2_of A0_1.out
  have qzA0 : w.heap.size < w1.heap.size := size_of_get A0_1.out
  go_wp2_with fail
  clear qA0_0 qA0_1 qzA0
  refine (toQueue_anyf y0a0 y0n0 y0p0 y0g0 y0v1 _ hmy0_0 (HAy0_0.out.below B_1.out)).mono ?_
  rintro e w2 ⟨cy0_0, hord, rfl, ⟨hty0_0, hfzy0_0⟩, hb⟩
  have hs_2 : w1.heap.size ≤ w2.heap.size := hb.size
  have B_2 : Hid (Below w.heap.size w w2) := B_1.out.trans (hb.mono B_1.out.size)
  have A0_2 : Hid (w2.heap[w.heap.size]? = some (.cells #[.slice y0a0 y0n0 y0p0, .int .i64 y0v1] 42)) := get_below hb A0_1.out (size_of_get A0_1.out)
  have E_2 : Hid (Eof w2) := Eof.below E_1.out hb
  have hoc0 := hord
  clear hord hb
  have cy0_0_2 : Hid (Txt w2 (some ⟨cy0_0, 0, none⟩) y0n0 y0g0) := hty0_0
  have lxcy0_0 : y0n0 ≠ 0 → w.heap.size ≤ cy0_0 ∧ cy0_0 < w2.heap.size := fun _ => by have := (B_2.out).size; have := (hoc0); omega
  clear hfzy0_0
  clear hty0_0
  obtain ⟨qA0_0, qA0_1⟩ := cells2_of A0_2.out
  have qzA0 : w.heap.size < w2.heap.size := size_of_get A0_2.out
  go_wp2_with fail
  clear qA0_0 qA0_1 qzA0
  refine (HSP.out cy0_0 _ hmy0_0 hszy0_0 hsc1 cy0_0_2.out).mono ?_
  rintro e w3 ⟨sad0_0, spd0_0, rfl, hqd0_0, hb⟩
  have hs_3 : w2.heap.size ≤ w3.heap.size := hb.size
  have B_3 : Hid (Below w.heap.size w w3) := B_2.out.trans (hb.mono B_2.out.size)
  have A0_3 : Hid (w3.heap[w.heap.size]? = some (.cells #[.slice y0a0 y0n0 y0p0, .int .i64 y0v1] 42)) := get_below hb A0_2.out (size_of_get A0_2.out)
  have E_3 : Hid (Eof w3) := Eof.below E_2.out hb
  clear hb
  obtain ⟨sxd0_0, hsid0_0, hsld0_0⟩ := hqd0_0.inn
  have sd0_0_3 : Hid (Txt w3 sad0_0 d0n0 d0g0) := hqd0_0
  clear hqd0_0
  have hs_4 : w3.heap.size ≤ (w3.alloc (.cells #[.slice sad0_0 d0n0 spd0_0, .int .i64 d0v1] 45)).heap.size := ((Below.refl _ _).alloc (Nat.le_refl _) _ : Below w3.heap.size w3 (w3.alloc (.cells #[.slice sad0_0 d0n0 spd0_0, .int .i64 d0v1] 45))).size
  have B_4 : Hid (Below w.heap.size w (w3.alloc (.cells #[.slice sad0_0 d0n0 spd0_0, .int .i64 d0v1] 45))) := B_3.out.trans (((Below.refl _ _).alloc (Nat.le_refl _) _ : Below w3.heap.size w3 (w3.alloc (.cells #[.slice sad0_0 d0n0 spd0_0, .int .i64 d0v1] 45))).mono B_3.out.size)
  have A0_4 : Hid ((w3.alloc (.cells #[.slice sad0_0 d0n0 spd0_0, .int .i64 d0v1] 45)).heap[w.heap.size]? = some (.cells #[.slice y0a0 y0n0 y0p0, .int .i64 y0v1] 42)) := get_below ((Below.refl _ _).alloc (Nat.le_refl _) _ : Below w3.heap.size w3 (w3.alloc (.cells #[.slice sad0_0 d0n0 spd0_0, .int .i64 d0v1] 45))) A0_3.out (size_of_get A0_3.out)
  have E_4 : Hid (Eof (w3.alloc (.cells #[.slice sad0_0 d0n0 spd0_0, .int .i64 d0v1] 45))) := Eof.below E_3.out ((Below.refl _ _).alloc (Nat.le_refl _) _ : Below w3.heap.size w3 (w3.alloc (.cells #[.slice sad0_0 d0n0 spd0_0, .int .i64 d0v1] 45)))
  have sd0_0_4 : Hid (Txt (w3.alloc (.cells #[.slice sad0_0 d0n0 spd0_0, .int .i64 d0v1] 45)) sad0_0 d0n0 d0g0) := sd0_0_3.out.below ((Below.refl _ _).alloc (Nat.le_refl _) _ : Below w3.heap.size w3 (w3.alloc (.cells #[.slice sad0_0 d0n0 spd0_0, .int .i64 d0v1] 45)))
  have sR0_4 : Hid ((w3.alloc (.cells #[.slice sad0_0 d0n0 spd0_0, .int .i64 d0v1] 45)).heap[w3.heap.size]? = some (.cells #[.slice sad0_0 d0n0 spd0_0, .int .i64 d0v1] 45)) := get_new rfl
  have hz_4 : w3.heap.size < (w3.alloc (.cells #[.slice sad0_0 d0n0 spd0_0, .int .i64 d0v1] 45)).heap.size := by simp
  obtain ⟨qA0_0, qA0_1⟩ := cells2_of A0_3.out
  have qzA0 : w.heap.size < w3.heap.size := size_of_get A0_3.out
  go_wp2_with fail
  clear qA0_0 qA0_1 qzA0
  generalize (w3.alloc (.cells #[.slice sad0_0 d0n0 spd0_0, .int .i64 d0v1] 45)) = w4 at *
  refine (toQueue_anyf y0a0 y0n0 y0p0 y0g0 y0v1 _ hmy0_0 (HAy0_0.out.below B_4.out)).mono ?_
  rintro e w5 ⟨xy0_0, hord, rfl, ⟨hty0_0, hfzy0_0⟩, hb⟩
  have hs_5 : w4.heap.size ≤ w5.heap.size := hb.size
  have B_5 : Hid (Below w.heap.size w w5) := B_4.out.trans (hb.mono B_4.out.size)
  have A0_5 : Hid (w5.heap[w.heap.size]? = some (.cells #[.slice y0a0 y0n0 y0p0, .int .i64 y0v1] 42)) := get_below hb A0_4.out (size_of_get A0_4.out)
  have E_5 : Hid (Eof w5) := Eof.below E_4.out hb
  have sd0_0_5 : Hid (Txt w5 sad0_0 d0n0 d0g0) := sd0_0_4.out.below hb
  have sR0_5 : Hid (w5.heap[w3.heap.size]? = some (.cells #[.slice sad0_0 d0n0 spd0_0, .int .i64 d0v1] 45)) := get_below hb sR0_4.out (size_of_get sR0_4.out)
  have hox0 := hord
  clear hord hb
  have xy0_0_5 : Hid (Txt w5 (some ⟨xy0_0, 0, none⟩) y0n0 y0g0) := hty0_0
  have lxxy0_0 : y0n0 ≠ 0 → w.heap.size ≤ xy0_0 ∧ xy0_0 < w5.heap.size := fun _ => by have := (B_5.out).size; have := (hox0); omega
  have xFy0_0_5 : Hid (y0n0 ≠ 0 → Free w5 xy0_0) := fun _ => hfzy0_0
  clear hfzy0_0
  clear hty0_0
  have hs_6 : w5.heap.size ≤ (w5.alloc (.cells #[.slice (some ⟨xy0_0, 0, none⟩) y0n0 y0n0, .int .i64 y0v1] 45)).heap.size := ((Below.refl _ _).alloc (Nat.le_refl _) _ : Below w5.heap.size w5 (w5.alloc (.cells #[.slice (some ⟨xy0_0, 0, none⟩) y0n0 y0n0, .int .i64 y0v1] 45))).size
  have B_6 : Hid (Below w.heap.size w (w5.alloc (.cells #[.slice (some ⟨xy0_0, 0, none⟩) y0n0 y0n0, .int .i64 y0v1] 45))) := B_5.out.trans (((Below.refl _ _).alloc (Nat.le_refl _) _ : Below w5.heap.size w5 (w5.alloc (.cells #[.slice (some ⟨xy0_0, 0, none⟩) y0n0 y0n0, .int .i64 y0v1] 45))).mono B_5.out.size)
  have A0_6 : Hid ((w5.alloc (.cells #[.slice (some ⟨xy0_0, 0, none⟩) y0n0 y0n0, .int .i64 y0v1] 45)).heap[w.heap.size]? = some (.cells #[.slice y0a0 y0n0 y0p0, .int .i64 y0v1] 42)) := get_below ((Below.refl _ _).alloc (Nat.le_refl _) _ : Below w5.heap.size w5 (w5.alloc (.cells #[.slice (some ⟨xy0_0, 0, none⟩) y0n0 y0n0, .int .i64 y0v1] 45))) A0_5.out (size_of_get A0_5.out)
  have E_6 : Hid (Eof (w5.alloc (.cells #[.slice (some ⟨xy0_0, 0, none⟩) y0n0 y0n0, .int .i64 y0v1] 45))) := Eof.below E_5.out ((Below.refl _ _).alloc (Nat.le_refl _) _ : Below w5.heap.size w5 (w5.alloc (.cells #[.slice (some ⟨xy0_0, 0, none⟩) y0n0 y0n0, .int .i64 y0v1] 45)))
  have sd0_0_6 : Hid (Txt (w5.alloc (.cells #[.slice (some ⟨xy0_0, 0, none⟩) y0n0 y0n0, .int .i64 y0v1] 45)) sad0_0 d0n0 d0g0) := sd0_0_5.out.below ((Below.refl _ _).alloc (Nat.le_refl _) _ : Below w5.heap.size w5 (w5.alloc (.cells #[.slice (some ⟨xy0_0, 0, none⟩) y0n0 y0n0, .int .i64 y0v1] 45)))
  have sR0_6 : Hid ((w5.alloc (.cells #[.slice (some ⟨xy0_0, 0, none⟩) y0n0 y0n0, .int .i64 y0v1] 45)).heap[w3.heap.size]? = some (.cells #[.slice sad0_0 d0n0 spd0_0, .int .i64 d0v1] 45)) := get_below ((Below.refl _ _).alloc (Nat.le_refl _) _ : Below w5.heap.size w5 (w5.alloc (.cells #[.slice (some ⟨xy0_0, 0, none⟩) y0n0 y0n0, .int .i64 y0v1] 45))) sR0_5.out (size_of_get sR0_5.out)
  have xy0_0_6 : Hid (Txt (w5.alloc (.cells #[.slice (some ⟨xy0_0, 0, none⟩) y0n0 y0n0, .int .i64 y0v1] 45)) (some ⟨xy0_0, 0, none⟩) y0n0 y0g0) := xy0_0_5.out.below ((Below.refl _ _).alloc (Nat.le_refl _) _ : Below w5.heap.size w5 (w5.alloc (.cells #[.slice (some ⟨xy0_0, 0, none⟩) y0n0 y0n0, .int .i64 y0v1] 45)))
  have xFy0_0_6 : Hid (y0n0 ≠ 0 → Free (w5.alloc (.cells #[.slice (some ⟨xy0_0, 0, none⟩) y0n0 y0n0, .int .i64 y0v1] 45)) xy0_0) := fun hn => (xFy0_0_5.out hn).below ((Below.refl _ _).alloc (Nat.le_refl _) _ : Below w5.heap.size w5 (w5.alloc (.cells #[.slice (some ⟨xy0_0, 0, none⟩) y0n0 y0n0, .int .i64 y0v1] 45))) (by have := lxxy0_0 hn; omega)
  have X0_6 : Hid ((w5.alloc (.cells #[.slice (some ⟨xy0_0, 0, none⟩) y0n0 y0n0, .int .i64 y0v1] 45)).heap[w5.heap.size]? = some (.cells #[.slice (some ⟨xy0_0, 0, none⟩) y0n0 y0n0, .int .i64 y0v1] 45)) := get_new rfl
  have hz_6 : w5.heap.size < (w5.alloc (.cells #[.slice (some ⟨xy0_0, 0, none⟩) y0n0 y0n0, .int .i64 y0v1] 45)).heap.size := by simp
  obtain ⟨qA0_0, qA0_1⟩ := cells2_of A0_5.out
  have qzA0 : w.heap.size < w5.heap.size := size_of_get A0_5.out
  obtain ⟨qsR0_0, qsR0_1⟩ := cells2_of sR0_5.out
  have qzsR0 : w3.heap.size < w5.heap.size := size_of_get sR0_5.out
  go_wp2_with fail
  clear qA0_0 qA0_1 qzA0 qsR0_0 qsR0_1 qzsR0
  generalize (w5.alloc (.cells #[.slice (some ⟨xy0_0, 0, none⟩) y0n0 y0n0, .int .i64 y0v1] 45)) = w6 at *
  refine (HIM.out xy0_0 _ hmy0_0 hszy0_0 hsc1 xy0_0_6.out E_6.out).mono ?_
  rintro e w8 ⟨gad0_0, gpd0_0, gxd0_0, rfl, ⟨hqd0_0, hqid0_0, hqld0_0, hqfd0_0⟩, hb⟩
  have hs_7 : w6.heap.size ≤ w8.heap.size := hb.size
  have B_7 : Hid (Below w.heap.size w w8) := B_6.out.trans (hb.mono B_6.out.size)
  have A0_7 : Hid (w8.heap[w.heap.size]? = some (.cells #[.slice y0a0 y0n0 y0p0, .int .i64 y0v1] 42)) := get_below hb A0_6.out (size_of_get A0_6.out)
  have E_7 : Hid (Eof w8) := Eof.below E_6.out hb
  have sd0_0_7 : Hid (Txt w8 sad0_0 d0n0 d0g0) := sd0_0_6.out.below hb
  have sR0_7 : Hid (w8.heap[w3.heap.size]? = some (.cells #[.slice sad0_0 d0n0 spd0_0, .int .i64 d0v1] 45)) := get_below hb sR0_6.out (size_of_get sR0_6.out)
  have xy0_0_7 : Hid (Txt w8 (some ⟨xy0_0, 0, none⟩) y0n0 y0g0) := xy0_0_6.out.below hb
  have xFy0_0_7 : Hid (y0n0 ≠ 0 → Free w8 xy0_0) := fun hn => (xFy0_0_6.out hn).below hb (by have := lxxy0_0 hn; omega)
  have X0_7 : Hid (w8.heap[w5.heap.size]? = some (.cells #[.slice (some ⟨xy0_0, 0, none⟩) y0n0 y0n0, .int .i64 y0v1] 45)) := get_below hb X0_6.out (size_of_get X0_6.out)
  clear hb
  have gld0_0 := hqld0_0
  have gid0_0 := hqid0_0
  have gd0_0_7 : Hid (Txt w8 gad0_0 d0n0 d0g0) := hqd0_0
  have gFd0_0_7 : Hid (d0n0 ≠ 0 → Free w8 gxd0_0) := hqfd0_0
  clear hqd0_0 hqfd0_0 hqld0_0 hqid0_0
  have hs_8 : w8.heap.size ≤ (w8.alloc (.cells #[.slice gad0_0 d0n0 gpd0_0, .int .i64 d0v1] 45)).heap.size := ((Below.refl _ _).alloc (Nat.le_refl _) _ : Below w8.heap.size w8 (w8.alloc (.cells #[.slice gad0_0 d0n0 gpd0_0, .int .i64 d0v1] 45))).size
  have B_8 : Hid (Below w.heap.size w (w8.alloc (.cells #[.slice gad0_0 d0n0 gpd0_0, .int .i64 d0v1] 45))) := B_7.out.trans (((Below.refl _ _).alloc (Nat.le_refl _) _ : Below w8.heap.size w8 (w8.alloc (.cells #[.slice gad0_0 d0n0 gpd0_0, .int .i64 d0v1] 45))).mono B_7.out.size)
  have A0_8 : Hid ((w8.alloc (.cells #[.slice gad0_0 d0n0 gpd0_0, .int .i64 d0v1] 45)).heap[w.heap.size]? = some (.cells #[.slice y0a0 y0n0 y0p0, .int .i64 y0v1] 42)) := get_below ((Below.refl _ _).alloc (Nat.le_refl _) _ : Below w8.heap.size w8 (w8.alloc (.cells #[.slice gad0_0 d0n0 gpd0_0, .int .i64 d0v1] 45))) A0_7.out (size_of_get A0_7.out)
  have E_8 : Hid (Eof (w8.alloc (.cells #[.slice gad0_0 d0n0 gpd0_0, .int .i64 d0v1] 45))) := Eof.below E_7.out ((Below.refl _ _).alloc (Nat.le_refl _) _ : Below w8.heap.size w8 (w8.alloc (.cells #[.slice gad0_0 d0n0 gpd0_0, .int .i64 d0v1] 45)))
  have sd0_0_8 : Hid (Txt (w8.alloc (.cells #[.slice gad0_0 d0n0 gpd0_0, .int .i64 d0v1] 45)) sad0_0 d0n0 d0g0) := sd0_0_7.out.below ((Below.refl _ _).alloc (Nat.le_refl _) _ : Below w8.heap.size w8 (w8.alloc (.cells #[.slice gad0_0 d0n0 gpd0_0, .int .i64 d0v1] 45)))
  have sR0_8 : Hid ((w8.alloc (.cells #[.slice gad0_0 d0n0 gpd0_0, .int .i64 d0v1] 45)).heap[w3.heap.size]? = some (.cells #[.slice sad0_0 d0n0 spd0_0, .int .i64 d0v1] 45)) := get_below ((Below.refl _ _).alloc (Nat.le_refl _) _ : Below w8.heap.size w8 (w8.alloc (.cells #[.slice gad0_0 d0n0 gpd0_0, .int .i64 d0v1] 45))) sR0_7.out (size_of_get sR0_7.out)
  have xy0_0_8 : Hid (Txt (w8.alloc (.cells #[.slice gad0_0 d0n0 gpd0_0, .int .i64 d0v1] 45)) (some ⟨xy0_0, 0, none⟩) y0n0 y0g0) := xy0_0_7.out.below ((Below.refl _ _).alloc (Nat.le_refl _) _ : Below w8.heap.size w8 (w8.alloc (.cells #[.slice gad0_0 d0n0 gpd0_0, .int .i64 d0v1] 45)))
  have xFy0_0_8 : Hid (y0n0 ≠ 0 → Free (w8.alloc (.cells #[.slice gad0_0 d0n0 gpd0_0, .int .i64 d0v1] 45)) xy0_0) := fun hn => (xFy0_0_7.out hn).below ((Below.refl _ _).alloc (Nat.le_refl _) _ : Below w8.heap.size w8 (w8.alloc (.cells #[.slice gad0_0 d0n0 gpd0_0, .int .i64 d0v1] 45))) (by have := lxxy0_0 hn; omega)
  have X0_8 : Hid ((w8.alloc (.cells #[.slice gad0_0 d0n0 gpd0_0, .int .i64 d0v1] 45)).heap[w5.heap.size]? = some (.cells #[.slice (some ⟨xy0_0, 0, none⟩) y0n0 y0n0, .int .i64 y0v1] 45)) := get_below ((Below.refl _ _).alloc (Nat.le_refl _) _ : Below w8.heap.size w8 (w8.alloc (.cells #[.slice gad0_0 d0n0 gpd0_0, .int .i64 d0v1] 45))) X0_7.out (size_of_get X0_7.out)
  have gd0_0_8 : Hid (Txt (w8.alloc (.cells #[.slice gad0_0 d0n0 gpd0_0, .int .i64 d0v1] 45)) gad0_0 d0n0 d0g0) := gd0_0_7.out.below ((Below.refl _ _).alloc (Nat.le_refl _) _ : Below w8.heap.size w8 (w8.alloc (.cells #[.slice gad0_0 d0n0 gpd0_0, .int .i64 d0v1] 45)))
  have gFd0_0_8 : Hid (d0n0 ≠ 0 → Free (w8.alloc (.cells #[.slice gad0_0 d0n0 gpd0_0, .int .i64 d0v1] 45)) gxd0_0) := fun hn => (gFd0_0_7.out hn).below ((Below.refl _ _).alloc (Nat.le_refl _) _ : Below w8.heap.size w8 (w8.alloc (.cells #[.slice gad0_0 d0n0 gpd0_0, .int .i64 d0v1] 45))) (by have := gld0_0 hn; omega)
  have gR0_8 : Hid ((w8.alloc (.cells #[.slice gad0_0 d0n0 gpd0_0, .int .i64 d0v1] 45)).heap[w8.heap.size]? = some (.cells #[.slice gad0_0 d0n0 gpd0_0, .int .i64 d0v1] 45)) := get_new rfl
  have hz_8 : w8.heap.size < (w8.alloc (.cells #[.slice gad0_0 d0n0 gpd0_0, .int .i64 d0v1] 45)).heap.size := by simp
  obtain ⟨qA0_0, qA0_1⟩ := cells2_of A0_7.out
  have qzA0 : w.heap.size < w8.heap.size := size_of_get A0_7.out
  obtain ⟨qsR0_0, qsR0_1⟩ := cells2_of sR0_7.out
  have qzsR0 : w3.heap.size < w8.heap.size := size_of_get sR0_7.out
  obtain ⟨qX0_0, qX0_1⟩ := cells2_of X0_7.out
  have qzX0 : w5.heap.size < w8.heap.size := size_of_get X0_7.out
  go_wp2_with fail
  clear qA0_0 qA0_1 qzA0 qsR0_0 qsR0_1 qzsR0 qX0_0 qX0_1 qzX0
  generalize (w8.alloc (.cells #[.slice gad0_0 d0n0 gpd0_0, .int .i64 d0v1] 45)) = w9 at *
  refine (eqQueue_any gad0_0 d0n0 gpd0_0 d0g0 d0v1 sad0_0 spd0_0 _ (by unfold maxLen; omega) gd0_0_8.out sd0_0_8.out).mono ?_
  rintro e w10 ⟨rfl, hb⟩
  have hs_9 : w9.heap.size ≤ w10.heap.size := hb.size
  have B_9 : Hid (Below w.heap.size w w10) := B_8.out.trans (hb.mono B_8.out.size)
  have A0_9 : Hid (w10.heap[w.heap.size]? = some (.cells #[.slice y0a0 y0n0 y0p0, .int .i64 y0v1] 42)) := get_below hb A0_8.out (size_of_get A0_8.out)
  have E_9 : Hid (Eof w10) := Eof.below E_8.out hb
  have sd0_0_9 : Hid (Txt w10 sad0_0 d0n0 d0g0) := sd0_0_8.out.below hb
  have sR0_9 : Hid (w10.heap[w3.heap.size]? = some (.cells #[.slice sad0_0 d0n0 spd0_0, .int .i64 d0v1] 45)) := get_below hb sR0_8.out (size_of_get sR0_8.out)
  have xy0_0_9 : Hid (Txt w10 (some ⟨xy0_0, 0, none⟩) y0n0 y0g0) := xy0_0_8.out.below hb
  have xFy0_0_9 : Hid (y0n0 ≠ 0 → Free w10 xy0_0) := fun hn => (xFy0_0_8.out hn).below hb (by have := lxxy0_0 hn; omega)
  have X0_9 : Hid (w10.heap[w5.heap.size]? = some (.cells #[.slice (some ⟨xy0_0, 0, none⟩) y0n0 y0n0, .int .i64 y0v1] 45)) := get_below hb X0_8.out (size_of_get X0_8.out)
  have gd0_0_9 : Hid (Txt w10 gad0_0 d0n0 d0g0) := gd0_0_8.out.below hb
  have gFd0_0_9 : Hid (d0n0 ≠ 0 → Free w10 gxd0_0) := fun hn => (gFd0_0_8.out hn).below hb (by have := gld0_0 hn; omega)
  have gR0_9 : Hid (w10.heap[w8.heap.size]? = some (.cells #[.slice gad0_0 d0n0 gpd0_0, .int .i64 d0v1] 45)) := get_below hb gR0_8.out (size_of_get gR0_8.out)
  clear hb
  obtain ⟨qA0_0, qA0_1⟩ := cells2_of A0_9.out
  have qzA0 : w.heap.size < w10.heap.size := size_of_get A0_9.out
  obtain ⟨qsR0_0, qsR0_1⟩ := cells2_of sR0_9.out
  have qzsR0 : w3.heap.size < w10.heap.size := size_of_get sR0_9.out
  obtain ⟨qX0_0, qX0_1⟩ := cells2_of X0_9.out
  have qzX0 : w5.heap.size < w10.heap.size := size_of_get X0_9.out
  obtain ⟨qgR0_0, qgR0_1⟩ := cells2_of gR0_9.out
  have qzgR0 : w8.heap.size < w10.heap.size := size_of_get gR0_9.out
  go_wp2_with fail
  clear qA0_0 qA0_1 qzA0 qsR0_0 qsR0_1 qzsR0 qX0_0 qX0_1 qzX0 qgR0_0 qgR0_1 qzgR0
  obtain ⟨ka0, ka1⟩ := cells2_of A0_9.out
  obtain ⟨kx0, kx1⟩ := cells2_of X0_9.out
  have HD : Below w10.heap.size w10 w10.drew ∧ w10.drew.cell? ⟨w.heap.size, 0, none⟩ = some (.slice y0a0 y0n0 y0p0) ∧ w10.drew.cell? ⟨w.heap.size, 1, none⟩ = some (.int .i64 y0v1) ∧ w10.drew.cell? ⟨w5.heap.size, 0, none⟩ = some (.slice (some ⟨xy0_0, 0, none⟩) y0n0 y0n0) ∧ w10.drew.cell? ⟨w5.heap.size, 1, none⟩ = some (.int .i64 y0v1) := ⟨(Below.refl _ _).drew, ka0, ka1, kx0, kx1⟩
  clear ka0 ka1 kx0 kx1
  go_region_held2 (fun W => Below w10.heap.size w10 W ∧ W.cell? ⟨w.heap.size, 0, none⟩ = some (.slice y0a0 y0n0 y0p0) ∧ W.cell? ⟨w.heap.size, 1, none⟩ = some (.int .i64 y0v1) ∧ W.cell? ⟨w5.heap.size, 0, none⟩ = some (.slice (some ⟨xy0_0, 0, none⟩) y0n0 y0n0) ∧ W.cell? ⟨w5.heap.size, 1, none⟩ = some (.int .i64 y0v1)) (first | with_reducible assumption) ((first | (go_at_call 29; refine (toQueue_any y0a0 y0n0 y0p0 y0g0 y0v1 _ hmy0_0 (HAy0_0.out.below (B_9.out.trans ((show Below w10.heap.size w10 _ from (Below.refl _ _).drew).mono B_9.out.size)))).mono ?_; rintro e wq8 ⟨zy0_0, hor8, rfl, hzy0_0, hb8⟩; have HK := keepC4 (by with_reducible assumption) hb8; have HZy0_0 : Hid _ := hzy0_0; clear hzy0_0 hb8) | (go_at_call 31; refine (eqQueue_any (some ⟨xy0_0, 0, none⟩) y0n0 y0n0 y0g0 y0v1 _ _ _ hxy0_0 (xy0_0_9.out.below HK.1) HZy0_0.out).mono ?_; rintro e wq9 ⟨rfl, hb9⟩; have HK9 := keepC4 (by with_reducible assumption) hb9; clear hb9)))
  have hb : Below w10.heap.size w10 wq9 := HK9.1
  clear HK9 HK
  try clear HD
  try clear hor8
  have hs_10 : w10.heap.size ≤ wq9.heap.size := hb.size
  have B_10 : Hid (Below w.heap.size w wq9) := B_9.out.trans (hb.mono B_9.out.size)
  have A0_10 : Hid (wq9.heap[w.heap.size]? = some (.cells #[.slice y0a0 y0n0 y0p0, .int .i64 y0v1] 42)) := get_below hb A0_9.out (size_of_get A0_9.out)
  have E_10 : Hid (Eof wq9) := Eof.below E_9.out hb
  have sd0_0_10 : Hid (Txt wq9 sad0_0 d0n0 d0g0) := sd0_0_9.out.below hb
  have sR0_10 : Hid (wq9.heap[w3.heap.size]? = some (.cells #[.slice sad0_0 d0n0 spd0_0, .int .i64 d0v1] 45)) := get_below hb sR0_9.out (size_of_get sR0_9.out)
  have xy0_0_10 : Hid (Txt wq9 (some ⟨xy0_0, 0, none⟩) y0n0 y0g0) := xy0_0_9.out.below hb
  have xFy0_0_10 : Hid (y0n0 ≠ 0 → Free wq9 xy0_0) := fun hn => (xFy0_0_9.out hn).below hb (by have := lxxy0_0 hn; omega)
  have X0_10 : Hid (wq9.heap[w5.heap.size]? = some (.cells #[.slice (some ⟨xy0_0, 0, none⟩) y0n0 y0n0, .int .i64 y0v1] 45)) := get_below hb X0_9.out (size_of_get X0_9.out)
  have gd0_0_10 : Hid (Txt wq9 gad0_0 d0n0 d0g0) := gd0_0_9.out.below hb
  have gFd0_0_10 : Hid (d0n0 ≠ 0 → Free wq9 gxd0_0) := fun hn => (gFd0_0_9.out hn).below hb (by have := gld0_0 hn; omega)
  have gR0_10 : Hid (wq9.heap[w8.heap.size]? = some (.cells #[.slice gad0_0 d0n0 gpd0_0, .int .i64 d0v1] 45)) := get_below hb gR0_9.out (size_of_get gR0_9.out)
  clear hb
  generalize wq9 = w11 at *
  obtain ⟨qA0_0, qA0_1⟩ := cells2_of A0_10.out
  have qzA0 : w.heap.size < w11.heap.size := size_of_get A0_10.out
  obtain ⟨qsR0_0, qsR0_1⟩ := cells2_of sR0_10.out
  have qzsR0 : w3.heap.size < w11.heap.size := size_of_get sR0_10.out
  obtain ⟨qX0_0, qX0_1⟩ := cells2_of X0_10.out
  have qzX0 : w5.heap.size < w11.heap.size := size_of_get X0_10.out
  obtain ⟨qgR0_0, qgR0_1⟩ := cells2_of gR0_10.out
  have qzgR0 : w8.heap.size < w11.heap.size := size_of_get gR0_10.out
  go_wp2_with fail
  clear qA0_0 qA0_1 qzA0 qsR0_0 qsR0_1 qzsR0 qX0_0 qX0_1 qzX0 qgR0_0 qgR0_1 qzgR0
  refine (markQueue_any (some ⟨xy0_0, 0, none⟩) y0n0 y0n0 y0g0 y0v1 xy0_0 (1) _ (by omega) (by omega) (by omega) xy0_0_10.out (In.mk _ _ _) xFy0_0_10.out (fun hz => by have := lxxy0_0 hz; omega) ).mono ?_
  rintro e w12 ⟨rfl, _, ho⟩
  have hs_11 : w11.heap.size ≤ w12.heap.size := ho.size
  have B_11 : Hid (Below w.heap.size w w12) := Off.below B_10.out ho B_10.out.size (own_ge fun hz => by have := lxxy0_0 hz; omega)
  have A0_11 : Hid (w12.heap[w.heap.size]? = some (.cells #[.slice y0a0 y0n0 y0p0, .int .i64 y0v1] 42)) := ho.get A0_10.out (own_ne fun hz => by have := lxxy0_0 hz; omega)
  have E_11 : Hid (Eof w12) := Eof.off E_10.out ho (own_ne fun hz => by have := lxxy0_0 hz; have := hEl; omega)
  have sd0_0_11 : Hid (Txt w12 sad0_0 d0n0 d0g0) := sd0_0_10.out.off hsid0_0 ho (fun hn => (own_ne fun hz => by have := lxxy0_0 hz; have := hsld0_0 hn; omega))
  have sR0_11 : Hid (w12.heap[w3.heap.size]? = some (.cells #[.slice sad0_0 d0n0 spd0_0, .int .i64 d0v1] 45)) := ho.get sR0_10.out (own_ne fun hz => by have := lxxy0_0 hz; omega)
  have X0_11 : Hid (w12.heap[w5.heap.size]? = some (.cells #[.slice (some ⟨xy0_0, 0, none⟩) y0n0 y0n0, .int .i64 y0v1] 45)) := ho.get X0_10.out (own_ne fun hz => by have := lxxy0_0 hz; omega)
  have gd0_0_11 : Hid (Txt w12 gad0_0 d0n0 d0g0) := gd0_0_10.out.off gid0_0 ho (fun hn => (own_ne fun hz => by have := lxxy0_0 hz; have := gld0_0 hn; omega))
  have gFd0_0_11 : Hid (d0n0 ≠ 0 → Free w12 gxd0_0) := fun hn => (gFd0_0_10.out hn).off ho (by have := gld0_0 hn; omega) (own_ne fun hz => by have := lxxy0_0 hz; have := gld0_0 hn; omega)
  have gR0_11 : Hid (w12.heap[w8.heap.size]? = some (.cells #[.slice gad0_0 d0n0 gpd0_0, .int .i64 d0v1] 45)) := ho.get gR0_10.out (own_ne fun hz => by have := lxxy0_0 hz; omega)
  clear ho
  have hkp0 : ¬ 1 + y0n0 < 0 := by omega
  obtain ⟨qA0_0, qA0_1⟩ := cells2_of A0_11.out
  have qzA0 : w.heap.size < w12.heap.size := size_of_get A0_11.out
  obtain ⟨qsR0_0, qsR0_1⟩ := cells2_of sR0_11.out
  have qzsR0 : w3.heap.size < w12.heap.size := size_of_get sR0_11.out
  obtain ⟨qX0_0, qX0_1⟩ := cells2_of X0_11.out
  have qzX0 : w5.heap.size < w12.heap.size := size_of_get X0_11.out
  obtain ⟨qgR0_0, qgR0_1⟩ := cells2_of gR0_11.out
  have qzgR0 : w8.heap.size < w12.heap.size := size_of_get gR0_11.out
  go_wp2_with fail
  clear qA0_0 qA0_1 qzA0 qsR0_0 qsR0_1 qzsR0 qX0_0 qX0_1 qzX0 qgR0_0 qgR0_1 qzgR0
  refine (eqQueue_any gad0_0 d0n0 gpd0_0 d0g0 d0v1 sad0_0 spd0_0 _ (by unfold maxLen; omega) gd0_0_11.out sd0_0_11.out).mono ?_
  rintro e w13 ⟨rfl, hb⟩
  have hs_12 : w12.heap.size ≤ w13.heap.size := hb.size
  have B_12 : Hid (Below w.heap.size w w13) := B_11.out.trans (hb.mono B_11.out.size)
  have A0_12 : Hid (w13.heap[w.heap.size]? = some (.cells #[.slice y0a0 y0n0 y0p0, .int .i64 y0v1] 42)) := get_below hb A0_11.out (size_of_get A0_11.out)
  have E_12 : Hid (Eof w13) := Eof.below E_11.out hb
  have sd0_0_12 : Hid (Txt w13 sad0_0 d0n0 d0g0) := sd0_0_11.out.below hb
  have sR0_12 : Hid (w13.heap[w3.heap.size]? = some (.cells #[.slice sad0_0 d0n0 spd0_0, .int .i64 d0v1] 45)) := get_below hb sR0_11.out (size_of_get sR0_11.out)
  have X0_12 : Hid (w13.heap[w5.heap.size]? = some (.cells #[.slice (some ⟨xy0_0, 0, none⟩) y0n0 y0n0, .int .i64 y0v1] 45)) := get_below hb X0_11.out (size_of_get X0_11.out)
  have gd0_0_12 : Hid (Txt w13 gad0_0 d0n0 d0g0) := gd0_0_11.out.below hb
  have gFd0_0_12 : Hid (d0n0 ≠ 0 → Free w13 gxd0_0) := fun hn => (gFd0_0_11.out hn).below hb (by have := gld0_0 hn; omega)
  have gR0_12 : Hid (w13.heap[w8.heap.size]? = some (.cells #[.slice gad0_0 d0n0 gpd0_0, .int .i64 d0v1] 45)) := get_below hb gR0_11.out (size_of_get gR0_11.out)
  clear hb
  obtain ⟨qA0_0, qA0_1⟩ := cells2_of A0_12.out
  have qzA0 : w.heap.size < w13.heap.size := size_of_get A0_12.out
  obtain ⟨qsR0_0, qsR0_1⟩ := cells2_of sR0_12.out
  have qzsR0 : w3.heap.size < w13.heap.size := size_of_get sR0_12.out
  obtain ⟨qX0_0, qX0_1⟩ := cells2_of X0_12.out
  have qzX0 : w5.heap.size < w13.heap.size := size_of_get X0_12.out
  obtain ⟨qgR0_0, qgR0_1⟩ := cells2_of gR0_12.out
  have qzgR0 : w8.heap.size < w13.heap.size := size_of_get gR0_12.out
  go_wp2_with fail
  clear qA0_0 qA0_1 qzA0 qsR0_0 qsR0_1 qzsR0 qX0_0 qX0_1 qzX0 qgR0_0 qgR0_1 qzgR0
  refine (markQueue_any gad0_0 d0n0 gpd0_0 d0g0 d0v1 gxd0_0 (1) _ (by omega) (by omega) (by omega) gd0_0_12.out gid0_0 gFd0_0_12.out (fun hz => by have := gld0_0 hz; omega) ).mono ?_
  rintro e w14 ⟨rfl, hmkd0_0, ho⟩
  have hs_13 : w13.heap.size ≤ w14.heap.size := ho.size
  have B_13 : Hid (Below w.heap.size w w14) := Off.below B_12.out ho B_12.out.size (own_ge fun hz => by have := gld0_0 hz; omega)
  have A0_13 : Hid (w14.heap[w.heap.size]? = some (.cells #[.slice y0a0 y0n0 y0p0, .int .i64 y0v1] 42)) := ho.get A0_12.out (own_ne fun hz => by have := gld0_0 hz; omega)
  have E_13 : Hid (Eof w14) := Eof.off E_12.out ho (own_ne fun hz => by have := gld0_0 hz; have := hEl; omega)
  have sd0_0_13 : Hid (Txt w14 sad0_0 d0n0 d0g0) := sd0_0_12.out.off hsid0_0 ho (fun hn => (own_ne fun hz => by have := gld0_0 hz; have := hsld0_0 hn; omega))
  have sR0_13 : Hid (w14.heap[w3.heap.size]? = some (.cells #[.slice sad0_0 d0n0 spd0_0, .int .i64 d0v1] 45)) := ho.get sR0_12.out (own_ne fun hz => by have := gld0_0 hz; omega)
  have X0_13 : Hid (w14.heap[w5.heap.size]? = some (.cells #[.slice (some ⟨xy0_0, 0, none⟩) y0n0 y0n0, .int .i64 y0v1] 45)) := ho.get X0_12.out (own_ne fun hz => by have := gld0_0 hz; omega)
  have gR0_13 : Hid (w14.heap[w8.heap.size]? = some (.cells #[.slice gad0_0 d0n0 gpd0_0, .int .i64 d0v1] 45)) := ho.get gR0_12.out (own_ne fun hz => by have := gld0_0 hz; omega)
  clear ho
  have md0_0_13 : Hid (Txt w14 gad0_0 d0n0 (mkString_0 (1))) := hmkd0_0
  clear hmkd0_0
  obtain ⟨qA0_0, qA0_1⟩ := cells2_of A0_13.out
  have qzA0 : w.heap.size < w14.heap.size := size_of_get A0_13.out
  obtain ⟨qsR0_0, qsR0_1⟩ := cells2_of sR0_13.out
  have qzsR0 : w3.heap.size < w14.heap.size := size_of_get sR0_13.out
  obtain ⟨qX0_0, qX0_1⟩ := cells2_of X0_13.out
  have qzX0 : w5.heap.size < w14.heap.size := size_of_get X0_13.out
  obtain ⟨qgR0_0, qgR0_1⟩ := cells2_of gR0_13.out
  have qzgR0 : w8.heap.size < w14.heap.size := size_of_get gR0_13.out
  go_wp2_with fail
  clear qA0_0 qA0_1 qzA0 qsR0_0 qsR0_1 qzsR0 qX0_0 qX0_1 qzX0 qgR0_0 qgR0_1 qzgR0
  refine (heldQueue_any gad0_0 d0n0 gpd0_0 d0v1 (1) _ (by omega) (by omega) (by omega) md0_0_13.out).mono ?_
  rintro e w15 ⟨rfl, hb⟩
  have hs_14 : w14.heap.size ≤ w15.heap.size := hb.size
  have B_14 : Hid (Below w.heap.size w w15) := B_13.out.trans (hb.mono B_13.out.size)
  have A0_14 : Hid (w15.heap[w.heap.size]? = some (.cells #[.slice y0a0 y0n0 y0p0, .int .i64 y0v1] 42)) := get_below hb A0_13.out (size_of_get A0_13.out)
  have E_14 : Hid (Eof w15) := Eof.below E_13.out hb
  have sd0_0_14 : Hid (Txt w15 sad0_0 d0n0 d0g0) := sd0_0_13.out.below hb
  have sR0_14 : Hid (w15.heap[w3.heap.size]? = some (.cells #[.slice sad0_0 d0n0 spd0_0, .int .i64 d0v1] 45)) := get_below hb sR0_13.out (size_of_get sR0_13.out)
  have X0_14 : Hid (w15.heap[w5.heap.size]? = some (.cells #[.slice (some ⟨xy0_0, 0, none⟩) y0n0 y0n0, .int .i64 y0v1] 45)) := get_below hb X0_13.out (size_of_get X0_13.out)
  have gR0_14 : Hid (w15.heap[w8.heap.size]? = some (.cells #[.slice gad0_0 d0n0 gpd0_0, .int .i64 d0v1] 45)) := get_below hb gR0_13.out (size_of_get gR0_13.out)
  have md0_0_14 : Hid (Txt w15 gad0_0 d0n0 (mkString_0 (1))) := md0_0_13.out.below hb
  clear hb
  have hqp_w15 : ¬ 1 + d0n0 < 0 := by omega
  obtain ⟨qA0_0, qA0_1⟩ := cells2_of A0_14.out
  have qzA0 : w.heap.size < w15.heap.size := size_of_get A0_14.out
  obtain ⟨qsR0_0, qsR0_1⟩ := cells2_of sR0_14.out
  have qzsR0 : w3.heap.size < w15.heap.size := size_of_get sR0_14.out
  obtain ⟨qX0_0, qX0_1⟩ := cells2_of X0_14.out
  have qzX0 : w5.heap.size < w15.heap.size := size_of_get X0_14.out
  obtain ⟨qgR0_0, qgR0_1⟩ := cells2_of gR0_14.out
  have qzgR0 : w8.heap.size < w15.heap.size := size_of_get gR0_14.out
  go_wp2_with fail
  clear qA0_0 qA0_1 qzA0 qsR0_0 qsR0_1 qzsR0 qX0_0 qX0_1 qzX0 qgR0_0 qgR0_1 qzgR0
  refine (toQueue_anyf y0a0 y0n0 y0p0 y0g0 y0v1 _ hmy0_0 (HAy0_0.out.below B_14.out)).mono ?_
  rintro e w16 ⟨cy0_0, hord, rfl, ⟨hty0_0, hfzy0_0⟩, hb⟩
  have hs_15 : w15.heap.size ≤ w16.heap.size := hb.size
  have B_15 : Hid (Below w.heap.size w w16) := B_14.out.trans (hb.mono B_14.out.size)
  have A0_15 : Hid (w16.heap[w.heap.size]? = some (.cells #[.slice y0a0 y0n0 y0p0, .int .i64 y0v1] 42)) := get_below hb A0_14.out (size_of_get A0_14.out)
  have E_15 : Hid (Eof w16) := Eof.below E_14.out hb
  have sd0_0_15 : Hid (Txt w16 sad0_0 d0n0 d0g0) := sd0_0_14.out.below hb
  have sR0_15 : Hid (w16.heap[w3.heap.size]? = some (.cells #[.slice sad0_0 d0n0 spd0_0, .int .i64 d0v1] 45)) := get_below hb sR0_14.out (size_of_get sR0_14.out)
  have X0_15 : Hid (w16.heap[w5.heap.size]? = some (.cells #[.slice (some ⟨xy0_0, 0, none⟩) y0n0 y0n0, .int .i64 y0v1] 45)) := get_below hb X0_14.out (size_of_get X0_14.out)
  have gR0_15 : Hid (w16.heap[w8.heap.size]? = some (.cells #[.slice gad0_0 d0n0 gpd0_0, .int .i64 d0v1] 45)) := get_below hb gR0_14.out (size_of_get gR0_14.out)
  have md0_0_15 : Hid (Txt w16 gad0_0 d0n0 (mkString_0 (1))) := md0_0_14.out.below hb
  have hoc0 := hord
  clear hord hb
  have cy0_0_15 : Hid (Txt w16 (some ⟨cy0_0, 0, none⟩) y0n0 y0g0) := hty0_0
  have lxcy0_0 : y0n0 ≠ 0 → w.heap.size ≤ cy0_0 ∧ cy0_0 < w16.heap.size := fun _ => by have := (B_15.out).size; have := (hoc0); omega
  clear hfzy0_0
  clear hty0_0
  obtain ⟨qA0_0, qA0_1⟩ := cells2_of A0_15.out
  have qzA0 : w.heap.size < w16.heap.size := size_of_get A0_15.out
  obtain ⟨qsR0_0, qsR0_1⟩ := cells2_of sR0_15.out
  have qzsR0 : w3.heap.size < w16.heap.size := size_of_get sR0_15.out
  obtain ⟨qX0_0, qX0_1⟩ := cells2_of X0_15.out
  have qzX0 : w5.heap.size < w16.heap.size := size_of_get X0_15.out
  obtain ⟨qgR0_0, qgR0_1⟩ := cells2_of gR0_15.out
  have qzgR0 : w8.heap.size < w16.heap.size := size_of_get gR0_15.out
  go_wp2_with fail
  clear qA0_0 qA0_1 qzA0 qsR0_0 qsR0_1 qzsR0 qX0_0 qX0_1 qzX0 qgR0_0 qgR0_1 qzgR0
  refine (HIM.out cy0_0 _ hmy0_0 hszy0_0 hsc1 cy0_0_15.out E_15.out).mono ?_
  rintro e w17 ⟨had0_0, hpd0_0, hxd0_0, rfl, ⟨hqd0_0, hqid0_0, hqld0_0, hqfd0_0⟩, hb⟩
  have hs_16 : w16.heap.size ≤ w17.heap.size := hb.size
  have B_16 : Hid (Below w.heap.size w w17) := B_15.out.trans (hb.mono B_15.out.size)
  have A0_16 : Hid (w17.heap[w.heap.size]? = some (.cells #[.slice y0a0 y0n0 y0p0, .int .i64 y0v1] 42)) := get_below hb A0_15.out (size_of_get A0_15.out)
  have E_16 : Hid (Eof w17) := Eof.below E_15.out hb
  have sd0_0_16 : Hid (Txt w17 sad0_0 d0n0 d0g0) := sd0_0_15.out.below hb
  have sR0_16 : Hid (w17.heap[w3.heap.size]? = some (.cells #[.slice sad0_0 d0n0 spd0_0, .int .i64 d0v1] 45)) := get_below hb sR0_15.out (size_of_get sR0_15.out)
  have X0_16 : Hid (w17.heap[w5.heap.size]? = some (.cells #[.slice (some ⟨xy0_0, 0, none⟩) y0n0 y0n0, .int .i64 y0v1] 45)) := get_below hb X0_15.out (size_of_get X0_15.out)
  have gR0_16 : Hid (w17.heap[w8.heap.size]? = some (.cells #[.slice gad0_0 d0n0 gpd0_0, .int .i64 d0v1] 45)) := get_below hb gR0_15.out (size_of_get gR0_15.out)
  have md0_0_16 : Hid (Txt w17 gad0_0 d0n0 (mkString_0 (1))) := md0_0_15.out.below hb
  have cy0_0_16 : Hid (Txt w17 (some ⟨cy0_0, 0, none⟩) y0n0 y0g0) := cy0_0_15.out.below hb
  clear hb
  have hld0_0 := hqld0_0
  have hid0_0 := hqid0_0
  have hd0_0_16 : Hid (Txt w17 had0_0 d0n0 d0g0) := hqd0_0
  have hFd0_0_16 : Hid (d0n0 ≠ 0 → Free w17 hxd0_0) := hqfd0_0
  clear hqd0_0 hqfd0_0 hqld0_0 hqid0_0
  have hs_17 : w17.heap.size ≤ (w17.alloc (.cells #[.slice had0_0 d0n0 hpd0_0, .int .i64 d0v1] 45)).heap.size := ((Below.refl _ _).alloc (Nat.le_refl _) _ : Below w17.heap.size w17 (w17.alloc (.cells #[.slice had0_0 d0n0 hpd0_0, .int .i64 d0v1] 45))).size
  have B_17 : Hid (Below w.heap.size w (w17.alloc (.cells #[.slice had0_0 d0n0 hpd0_0, .int .i64 d0v1] 45))) := B_16.out.trans (((Below.refl _ _).alloc (Nat.le_refl _) _ : Below w17.heap.size w17 (w17.alloc (.cells #[.slice had0_0 d0n0 hpd0_0, .int .i64 d0v1] 45))).mono B_16.out.size)
  have A0_17 : Hid ((w17.alloc (.cells #[.slice had0_0 d0n0 hpd0_0, .int .i64 d0v1] 45)).heap[w.heap.size]? = some (.cells #[.slice y0a0 y0n0 y0p0, .int .i64 y0v1] 42)) := get_below ((Below.refl _ _).alloc (Nat.le_refl _) _ : Below w17.heap.size w17 (w17.alloc (.cells #[.slice had0_0 d0n0 hpd0_0, .int .i64 d0v1] 45))) A0_16.out (size_of_get A0_16.out)
  have E_17 : Hid (Eof (w17.alloc (.cells #[.slice had0_0 d0n0 hpd0_0, .int .i64 d0v1] 45))) := Eof.below E_16.out ((Below.refl _ _).alloc (Nat.le_refl _) _ : Below w17.heap.size w17 (w17.alloc (.cells #[.slice had0_0 d0n0 hpd0_0, .int .i64 d0v1] 45)))
  have sd0_0_17 : Hid (Txt (w17.alloc (.cells #[.slice had0_0 d0n0 hpd0_0, .int .i64 d0v1] 45)) sad0_0 d0n0 d0g0) := sd0_0_16.out.below ((Below.refl _ _).alloc (Nat.le_refl _) _ : Below w17.heap.size w17 (w17.alloc (.cells #[.slice had0_0 d0n0 hpd0_0, .int .i64 d0v1] 45)))
  have sR0_17 : Hid ((w17.alloc (.cells #[.slice had0_0 d0n0 hpd0_0, .int .i64 d0v1] 45)).heap[w3.heap.size]? = some (.cells #[.slice sad0_0 d0n0 spd0_0, .int .i64 d0v1] 45)) := get_below ((Below.refl _ _).alloc (Nat.le_refl _) _ : Below w17.heap.size w17 (w17.alloc (.cells #[.slice had0_0 d0n0 hpd0_0, .int .i64 d0v1] 45))) sR0_16.out (size_of_get sR0_16.out)
  have X0_17 : Hid ((w17.alloc (.cells #[.slice had0_0 d0n0 hpd0_0, .int .i64 d0v1] 45)).heap[w5.heap.size]? = some (.cells #[.slice (some ⟨xy0_0, 0, none⟩) y0n0 y0n0, .int .i64 y0v1] 45)) := get_below ((Below.refl _ _).alloc (Nat.le_refl _) _ : Below w17.heap.size w17 (w17.alloc (.cells #[.slice had0_0 d0n0 hpd0_0, .int .i64 d0v1] 45))) X0_16.out (size_of_get X0_16.out)
  have gR0_17 : Hid ((w17.alloc (.cells #[.slice had0_0 d0n0 hpd0_0, .int .i64 d0v1] 45)).heap[w8.heap.size]? = some (.cells #[.slice gad0_0 d0n0 gpd0_0, .int .i64 d0v1] 45)) := get_below ((Below.refl _ _).alloc (Nat.le_refl _) _ : Below w17.heap.size w17 (w17.alloc (.cells #[.slice had0_0 d0n0 hpd0_0, .int .i64 d0v1] 45))) gR0_16.out (size_of_get gR0_16.out)
  have md0_0_17 : Hid (Txt (w17.alloc (.cells #[.slice had0_0 d0n0 hpd0_0, .int .i64 d0v1] 45)) gad0_0 d0n0 (mkString_0 (1))) := md0_0_16.out.below ((Below.refl _ _).alloc (Nat.le_refl _) _ : Below w17.heap.size w17 (w17.alloc (.cells #[.slice had0_0 d0n0 hpd0_0, .int .i64 d0v1] 45)))
  have hd0_0_17 : Hid (Txt (w17.alloc (.cells #[.slice had0_0 d0n0 hpd0_0, .int .i64 d0v1] 45)) had0_0 d0n0 d0g0) := hd0_0_16.out.below ((Below.refl _ _).alloc (Nat.le_refl _) _ : Below w17.heap.size w17 (w17.alloc (.cells #[.slice had0_0 d0n0 hpd0_0, .int .i64 d0v1] 45)))
  have hR0_17 : Hid ((w17.alloc (.cells #[.slice had0_0 d0n0 hpd0_0, .int .i64 d0v1] 45)).heap[w17.heap.size]? = some (.cells #[.slice had0_0 d0n0 hpd0_0, .int .i64 d0v1] 45)) := get_new rfl
  have hz_17 : w17.heap.size < (w17.alloc (.cells #[.slice had0_0 d0n0 hpd0_0, .int .i64 d0v1] 45)).heap.size := by simp
  obtain ⟨qA0_0, qA0_1⟩ := cells2_of A0_16.out
  have qzA0 : w.heap.size < w17.heap.size := size_of_get A0_16.out
  obtain ⟨qsR0_0, qsR0_1⟩ := cells2_of sR0_16.out
  have qzsR0 : w3.heap.size < w17.heap.size := size_of_get sR0_16.out
  obtain ⟨qX0_0, qX0_1⟩ := cells2_of X0_16.out
  have qzX0 : w5.heap.size < w17.heap.size := size_of_get X0_16.out
  obtain ⟨qgR0_0, qgR0_1⟩ := cells2_of gR0_16.out
  have qzgR0 : w8.heap.size < w17.heap.size := size_of_get gR0_16.out
  go_wp2_with fail
  clear qA0_0 qA0_1 qzA0 qsR0_0 qsR0_1 qzsR0 qX0_0 qX0_1 qzX0 qgR0_0 qgR0_1 qzgR0
  generalize (w17.alloc (.cells #[.slice had0_0 d0n0 hpd0_0, .int .i64 d0v1] 45)) = w18 at *
  refine (eqQueue_any had0_0 d0n0 hpd0_0 d0g0 d0v1 sad0_0 spd0_0 _ (by unfold maxLen; omega) hd0_0_17.out sd0_0_17.out).mono ?_
  rintro e w19 ⟨rfl, hb⟩
  have hs_18 : w18.heap.size ≤ w19.heap.size := hb.size
  have B_18 : Hid (Below w.heap.size w w19) := B_17.out.trans (hb.mono B_17.out.size)
  have A0_18 : Hid (w19.heap[w.heap.size]? = some (.cells #[.slice y0a0 y0n0 y0p0, .int .i64 y0v1] 42)) := get_below hb A0_17.out (size_of_get A0_17.out)
  have E_18 : Hid (Eof w19) := Eof.below E_17.out hb
  have sd0_0_18 : Hid (Txt w19 sad0_0 d0n0 d0g0) := sd0_0_17.out.below hb
  have sR0_18 : Hid (w19.heap[w3.heap.size]? = some (.cells #[.slice sad0_0 d0n0 spd0_0, .int .i64 d0v1] 45)) := get_below hb sR0_17.out (size_of_get sR0_17.out)
  have X0_18 : Hid (w19.heap[w5.heap.size]? = some (.cells #[.slice (some ⟨xy0_0, 0, none⟩) y0n0 y0n0, .int .i64 y0v1] 45)) := get_below hb X0_17.out (size_of_get X0_17.out)
  have gR0_18 : Hid (w19.heap[w8.heap.size]? = some (.cells #[.slice gad0_0 d0n0 gpd0_0, .int .i64 d0v1] 45)) := get_below hb gR0_17.out (size_of_get gR0_17.out)
  have md0_0_18 : Hid (Txt w19 gad0_0 d0n0 (mkString_0 (1))) := md0_0_17.out.below hb
  have hd0_0_18 : Hid (Txt w19 had0_0 d0n0 d0g0) := hd0_0_17.out.below hb
  have hR0_18 : Hid (w19.heap[w17.heap.size]? = some (.cells #[.slice had0_0 d0n0 hpd0_0, .int .i64 d0v1] 45)) := get_below hb hR0_17.out (size_of_get hR0_17.out)
  clear hb
  obtain ⟨qA0_0, qA0_1⟩ := cells2_of A0_18.out
  have qzA0 : w.heap.size < w19.heap.size := size_of_get A0_18.out
  obtain ⟨qsR0_0, qsR0_1⟩ := cells2_of sR0_18.out
  have qzsR0 : w3.heap.size < w19.heap.size := size_of_get sR0_18.out
  obtain ⟨qX0_0, qX0_1⟩ := cells2_of X0_18.out
  have qzX0 : w5.heap.size < w19.heap.size := size_of_get X0_18.out
  obtain ⟨qgR0_0, qgR0_1⟩ := cells2_of gR0_18.out
  have qzgR0 : w8.heap.size < w19.heap.size := size_of_get gR0_18.out
  obtain ⟨qhR0_0, qhR0_1⟩ := cells2_of hR0_18.out
  have qzhR0 : w17.heap.size < w19.heap.size := size_of_get hR0_18.out
  go_wp2_with fail
  clear qA0_0 qA0_1 qzA0 qsR0_0 qsR0_1 qzsR0 qX0_0 qX0_1 qzX0 qgR0_0 qgR0_1 qzgR0 qhR0_0 qhR0_1 qzhR0
  refine (heldQueue_any gad0_0 d0n0 gpd0_0 d0v1 (1) _ (by omega) (by omega) (by omega) md0_0_18.out).mono ?_
  rintro e w20 ⟨rfl, hb⟩
  have hs_19 : w19.heap.size ≤ w20.heap.size := hb.size
  have B_19 : Hid (Below w.heap.size w w20) := B_18.out.trans (hb.mono B_18.out.size)
  have A0_19 : Hid (w20.heap[w.heap.size]? = some (.cells #[.slice y0a0 y0n0 y0p0, .int .i64 y0v1] 42)) := get_below hb A0_18.out (size_of_get A0_18.out)
  have E_19 : Hid (Eof w20) := Eof.below E_18.out hb
  have sd0_0_19 : Hid (Txt w20 sad0_0 d0n0 d0g0) := sd0_0_18.out.below hb
  have sR0_19 : Hid (w20.heap[w3.heap.size]? = some (.cells #[.slice sad0_0 d0n0 spd0_0, .int .i64 d0v1] 45)) := get_below hb sR0_18.out (size_of_get sR0_18.out)
  have X0_19 : Hid (w20.heap[w5.heap.size]? = some (.cells #[.slice (some ⟨xy0_0, 0, none⟩) y0n0 y0n0, .int .i64 y0v1] 45)) := get_below hb X0_18.out (size_of_get X0_18.out)
  have gR0_19 : Hid (w20.heap[w8.heap.size]? = some (.cells #[.slice gad0_0 d0n0 gpd0_0, .int .i64 d0v1] 45)) := get_below hb gR0_18.out (size_of_get gR0_18.out)
  have md0_0_19 : Hid (Txt w20 gad0_0 d0n0 (mkString_0 (1))) := md0_0_18.out.below hb
  have hd0_0_19 : Hid (Txt w20 had0_0 d0n0 d0g0) := hd0_0_18.out.below hb
  have hR0_19 : Hid (w20.heap[w17.heap.size]? = some (.cells #[.slice had0_0 d0n0 hpd0_0, .int .i64 d0v1] 45)) := get_below hb hR0_18.out (size_of_get hR0_18.out)
  clear hb
  have hqp_w20 : ¬ 1 + d0n0 < 0 := by omega
  obtain ⟨qA0_0, qA0_1⟩ := cells2_of A0_19.out
  have qzA0 : w.heap.size < w20.heap.size := size_of_get A0_19.out
  obtain ⟨qsR0_0, qsR0_1⟩ := cells2_of sR0_19.out
  have qzsR0 : w3.heap.size < w20.heap.size := size_of_get sR0_19.out
  obtain ⟨qX0_0, qX0_1⟩ := cells2_of X0_19.out
  have qzX0 : w5.heap.size < w20.heap.size := size_of_get X0_19.out
  obtain ⟨qgR0_0, qgR0_1⟩ := cells2_of gR0_19.out
  have qzgR0 : w8.heap.size < w20.heap.size := size_of_get gR0_19.out
  obtain ⟨qhR0_0, qhR0_1⟩ := cells2_of hR0_19.out
  have qzhR0 : w17.heap.size < w20.heap.size := size_of_get hR0_19.out
  go_wp2_with fail
  clear qA0_0 qA0_1 qzA0 qsR0_0 qsR0_1 qzsR0 qX0_0 qX0_1 qzX0 qgR0_0 qgR0_1 qzgR0 qhR0_0 qhR0_1 qzhR0
  go_ret
  exact ⟨rfl, B_19.out⟩
end Go.Proofs.YtgejiiaocgacmaaDoor
