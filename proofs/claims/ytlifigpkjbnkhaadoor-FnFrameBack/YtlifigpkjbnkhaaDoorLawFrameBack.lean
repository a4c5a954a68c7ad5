/- Proved: laws.FnFrameBack returns true at every two slices of bytes (a frame is read back, whatever stands behind it), and leaves them as they were, as a tied card: the two errors of impl hold what the program's text lays in them. No other condition. -/
import Derived.Test.YtlifigpkjbnkhaaDoorDrawFr
import Derived.Test.YtlifigpkjbnkhaaDoorFgB
import Derived.Test.YtlifigpkjbnkhaaDoorCards
import Derived.Test.YtlifigpkjbnkhaaDoorTie
import Derived.LaidMore
import Derived.Stop.LaidErr
import Derived.Stop.Joined
import Derived.Stop.ErrReads
import Derived.SevenTiedAt
import Derived.OpenShut
import Derived.ShutString
namespace Go.Proofs.YtlifigpkjbnkhaaDoor
open Go.ChangeShapes Go.WideShapes Go.ChangeAt Go.RowKit
open Go.ChangeMaps (open_string shut_string)
set_option linter.unusedVariables false

theorem fgV_agg2 (t : ByteArray) : ∃ (p g : Bool) (c v q : Int) (d : ByteArray), fgV t = .agg #[.bool p, .bool g, .int .i64 c, .int .i64 v, .int .i64 q, .string d] ∧ d.size ≤ t.size := by
  unfold fgV
  split
  · exact ⟨_, _, _, _, _, _, rfl, by unfold fgD; rw [ByteArray.size_extract]; omega⟩
  · exact ⟨_, _, _, _, _, _, rfl, Nat.zero_le _⟩
theorem frPut_size (p g : Bool) (c v q : Int) (d : ByteArray) : (frPut p g c v q d).size ≤ 60 ∧ (frOk p g c v q d = true → 1 ≤ (frPut p g c v q d).size) ∧ (frOk p g c v q d = false → frPut p g c v q d = ⟨#[]⟩) := by
  unfold frPut
  cases h : frOk p g c v q d with
  | false => exact ⟨Nat.zero_le _, (fun h => by cases h), fun _ => rfl⟩
  | true =>
    obtain ⟨_, _, _, _, _, _, h6, h7, _⟩ := frOk_all h
    rw [if_pos rfl]
    have hz : (frW (frT (c + flg p g) (v * 1024 + d.size + 6) q d)).size = 7 + d.size := by
      rw [← lst_size, frW_lst]; simp [lst_size]; omega
    rw [hz]
    exact ⟨by omega, (fun _ => by omega), (fun h => by cases h)⟩
set_option maxRecDepth 100000 in
set_option maxHeartbeats 4000000 in
theorem FnFrameBack_walk (a0 : Option Addr) (l0 c0 : Nat) (z0 : List Int) (a1 : Option Addr) (l1 c1 : Nat) (z1 : List Int) (w : World) (h0 : IsRow .u8 w a0 l0 c0 z0) (h1 : IsRow .u8 w a1 l1 c1 z1) (he : Errs w) :
    Calls Tryd.prog 7 #[.slice a0 l0 c0, .slice a1 l1 c1] w fun e w' => e = .returned (.bool true) ∧ Below w.heap.size w w' := by
  by_cases hb0 : 1048576 < (l0 : Int)
  · go_enter Tryd.func7, Tryd.ntmps7
    go_wp2_with fail
    go_ret
    exact ⟨rfl, Below.refl _ _⟩
  by_cases hb1 : 1048576 < (l1 : Int)
  · go_enter Tryd.func7, Tryd.ntmps7
    go_wp2_with fail
    go_ret
    exact ⟨rfl, Below.refl _ _⟩
  have R0 : Hid _ := h0
  have R1 : Hid _ := h1
  have HE : Hid (Errs w) := he
  have HB : Hid (Below w.heap.size w w) := Below.refl _ _
  clear h0 h1 he
  go_enter Tryd.func7, Tryd.ntmps7
  go_wp2_with fail
  refine (DrawFramePut_any a0 l0 c0 z0 _ R0.out).mono ?_
  rintro e w1 ⟨p, g, c, v, q, d, hdz, rfl, hb⟩
  replace HB : Hid (Below w.heap.size w w1) := HB.out.trans (hb.mono HB.out.size)
  replace HE : Hid (Errs w1) := HE.out.below hb
  replace R0 : Hid (IsRow .u8 w1 a0 l0 c0 z0) := IsRow.keep R0.out hb
  replace R1 : Hid (IsRow .u8 w1 a1 l1 c1 z1) := IsRow.keep R1.out hb
  clear hb
  have hdm : d.size ≤ maxLen := by unfold maxLen; omega
  have F : Hid ((w1.alloc (.cells #[.bool p, .bool g, .int .i64 c, .int .i64 v, .int .i64 q, .string d] 23)).heap[w1.heap.size]? = some (.cells #[.bool p, .bool g, .int .i64 c, .int .i64 v, .int .i64 q, .string d] 23)) := get_new rfl
  replace HB : Hid (Below w.heap.size w (w1.alloc (.cells #[.bool p, .bool g, .int .i64 c, .int .i64 v, .int .i64 q, .string d] 23))) := HB.out.alloc HB.out.size _
  replace HE : Hid (Errs (w1.alloc (.cells #[.bool p, .bool g, .int .i64 c, .int .i64 v, .int .i64 q, .string d] 23))) := HE.out.below ((Below.refl _ _).alloc (Nat.le_refl _) _)
  replace R0 : Hid (IsRow .u8 (w1.alloc (.cells #[.bool p, .bool g, .int .i64 c, .int .i64 v, .int .i64 q, .string d] 23)) a0 l0 c0 z0) := IsRow.keep R0.out ((Below.refl _ _).alloc (Nat.le_refl _) _)
  replace R1 : Hid (IsRow .u8 (w1.alloc (.cells #[.bool p, .bool g, .int .i64 c, .int .i64 v, .int .i64 q, .string d] 23)) a1 l1 c1 z1) := IsRow.keep R1.out ((Below.refl _ _).alloc (Nat.le_refl _) _)
  go_wp2_with fail
  refine (implFramePut_any p g c v q d _ hdm).mono ?_
  rintro e w2 ⟨rfl, hb⟩
  replace F : Hid (w2.heap[w1.heap.size]? = some (.cells #[.bool p, .bool g, .int .i64 c, .int .i64 v, .int .i64 q, .string d] 23)) := get_below hb F.out (size_of_get F.out)
  replace HB : Hid (Below w.heap.size w w2) := HB.out.trans (hb.mono HB.out.size)
  replace HE : Hid (Errs w2) := HE.out.below hb
  replace R0 : Hid (IsRow .u8 w2 a0 l0 c0 z0) := IsRow.keep R0.out hb
  replace R1 : Hid (IsRow .u8 w2 a1 l1 c1 z1) := IsRow.keep R1.out hb
  clear hb
  obtain ⟨hz1, hz2, hz3⟩ := frPut_size p g c v q d
  have HBK : Hid (frOk p g c v q d = true → fgOk (frPut p g c v q d ++ ⟨#[85, 85]⟩) = true ∧ fgV (frPut p g c v q d ++ ⟨#[85, 85]⟩) = .agg #[.bool p, .bool g, .int .i64 c, .int .i64 v, .int .i64 q, .string d]) := fun h => fg_back h ⟨#[85, 85]⟩ (by decide)
  have HSP : Hid (∀ W, Calls Tryd.prog 21 #[.agg #[.bool p, .bool g, .int .i64 c, .int .i64 v, .int .i64 q, .string d]] W fun e w' => e = .returned (.string (frPut p g c v q d)) ∧ Below W.heap.size W w') := fun W => specFramePut_any _ _ _ _ _ _ _ hdm
  have HIO : Hid (∀ W, Calls Tryd.prog 22 #[.agg #[.bool p, .bool g, .int .i64 c, .int .i64 v, .int .i64 q, .string d]] W fun e w' => e = .returned (.bool (frOk p g c v q d)) ∧ Below W.heap.size W w') := fun W => implFrameOk_any _ _ _ _ _ _ _ hdm
  have HSO : Hid (∀ W, Calls Tryd.prog 23 #[.agg #[.bool p, .bool g, .int .i64 c, .int .i64 v, .int .i64 q, .string d]] W fun e w' => e = .returned (.bool (frOk p g c v q d)) ∧ Below W.heap.size W w') := fun W => specFrameOk_any _ _ _ _ _ _ _ hdm
  generalize frPut p g c v q d = t at *
  have hteq : (t.toList == t.toList) = true := by simp
  generalize hf : frOk p g c v q d = b at *
  clear hf
  go_wp2_with fail
  cases b with
  | false =>
    obtain rfl := hz3 rfl
    clear hz2 hz3 HBK
    obtain ⟨F_0, F_1, F_2, F_3, F_4, F_5⟩ := cells6_of F.out
    replace F_0 := Bl.cell F_0 (size_of_get F.out)
    replace F_1 := Bl.cell F_1 (size_of_get F.out)
    replace F_2 := Bl.cell F_2 (size_of_get F.out)
    replace F_3 := Bl.cell F_3 (size_of_get F.out)
    replace F_4 := Bl.cell F_4 (size_of_get F.out)
    replace F_5 := Bl.cell F_5 (size_of_get F.out)
    refine wp_region_bl (by kernel_rfl) (by kernel_rfl) ?_
    repeat (go_big_quiet_step ((first | (go_at_call 21; exact calls_bl (HSP.out _)) | (go_at_call 22; exact calls_bl (HIO.out _)) | (go_at_call 23; exact calls_bl (HSO.out _)))))
    refine wpQuiet_nil ?_
    intro w3 hw
    obtain ⟨⟨w3, hb⟩, rfl⟩ := hw
    clear F_0 F_1 F_2 F_3 F_4 F_5
    replace F : Hid (w3.heap[w1.heap.size]? = some (.cells #[.bool p, .bool g, .int .i64 c, .int .i64 v, .int .i64 q, .string d] 23)) := get_below hb F.out (size_of_get F.out)
    replace HB : Hid (Below w.heap.size w w3) := HB.out.trans (hb.mono HB.out.size)
    replace HE : Hid (Errs w3) := HE.out.below hb
    replace R0 : Hid (IsRow .u8 w3 a0 l0 c0 z0) := IsRow.keep R0.out hb
    replace R1 : Hid (IsRow .u8 w3 a1 l1 c1 z1) := IsRow.keep R1.out hb
    clear hb
    go_wp2_with fail
    refine (DrawFrameGet_any a1 l1 c1 z1 _ R1.out).mono ?_
    rintro e w4 ⟨u, hu, rfl, hb⟩
    replace F : Hid (w4.heap[w1.heap.size]? = some (.cells #[.bool p, .bool g, .int .i64 c, .int .i64 v, .int .i64 q, .string d] 23)) := get_below hb F.out (size_of_get F.out)
    replace HB : Hid (Below w.heap.size w w4) := HB.out.trans (hb.mono HB.out.size)
    replace HE : Hid (Errs w4) := HE.out.below hb
    replace R0 : Hid (IsRow .u8 w4 a0 l0 c0 z0) := IsRow.keep R0.out hb
    replace R1 : Hid (IsRow .u8 w4 a1 l1 c1 z1) := IsRow.keep R1.out hb
    clear hb
    have hum : u.size ≤ maxLen := by unfold maxLen; omega
    obtain ⟨p2, g2, c2, v2, q2, d2, hv2, hd2⟩ := fgV_agg2 u
    have hd2m : d2.size ≤ maxLen := by omega
    generalize hok : fgOk u = ok
    have HI2 : Hid (∀ W, Errs W → Calls Tryd.prog 9 #[.string u] W fun e w' => e = .returned (.tuple #[.agg #[.bool p2, .bool g2, .int .i64 c2, .int .i64 v2, .int .i64 q2, .string d2], .bool ok]) ∧ Below W.heap.size W w') := fun W he => by
      have := implFrameGet_any u W hum he
      rw [hv2, hok] at this; exact this
    have HS2 : Hid (∀ W, Calls Tryd.prog 8 #[.string u] W fun e w' => e = .returned (.tuple #[.agg #[.bool p2, .bool g2, .int .i64 c2, .int .i64 v2, .int .i64 q2, .string d2], .bool ok]) ∧ Below W.heap.size W w') := fun W => by
      have := specFrameGet_any u W hum
      rw [hv2, hok] at this; exact this
    have HFT : Hid (ok = true → frPut p2 g2 c2 v2 q2 d2 = u.extract 0 (fgN u) ∧ fgN u ≤ u.size) := fun h => fg_forth (hok.trans h) hv2
    clear hok hv2
    go_wp2_with fail
    refine Calls.mono (HI2.out _ HE.out) ?_
    rintro e w5 ⟨rfl, hb⟩
    replace F : Hid (w5.heap[w1.heap.size]? = some (.cells #[.bool p, .bool g, .int .i64 c, .int .i64 v, .int .i64 q, .string d] 23)) := get_below hb F.out (size_of_get F.out)
    replace HB : Hid (Below w.heap.size w w5) := HB.out.trans (hb.mono HB.out.size)
    replace HE : Hid (Errs w5) := HE.out.below hb
    replace R0 : Hid (IsRow .u8 w5 a0 l0 c0 z0) := IsRow.keep R0.out hb
    replace R1 : Hid (IsRow .u8 w5 a1 l1 c1 z1) := IsRow.keep R1.out hb
    clear hb
    replace F : Hid ((w5.alloc (.cells #[.bool p2, .bool g2, .int .i64 c2, .int .i64 v2, .int .i64 q2, .string d2] 23)).heap[w1.heap.size]? = some (.cells #[.bool p, .bool g, .int .i64 c, .int .i64 v, .int .i64 q, .string d] 23)) := get_alloc F.out (size_of_get F.out)
    have Y : Hid ((w5.alloc (.cells #[.bool p2, .bool g2, .int .i64 c2, .int .i64 v2, .int .i64 q2, .string d2] 23)).heap[w5.heap.size]? = some (.cells #[.bool p2, .bool g2, .int .i64 c2, .int .i64 v2, .int .i64 q2, .string d2] 23)) := get_new rfl
    replace HB : Hid (Below w.heap.size w (w5.alloc (.cells #[.bool p2, .bool g2, .int .i64 c2, .int .i64 v2, .int .i64 q2, .string d2] 23))) := HB.out.alloc HB.out.size _
    replace HE : Hid (Errs (w5.alloc (.cells #[.bool p2, .bool g2, .int .i64 c2, .int .i64 v2, .int .i64 q2, .string d2] 23))) := HE.out.below ((Below.refl _ _).alloc (Nat.le_refl _) _)
    replace R0 : Hid (IsRow .u8 (w5.alloc (.cells #[.bool p2, .bool g2, .int .i64 c2, .int .i64 v2, .int .i64 q2, .string d2] 23)) a0 l0 c0 z0) := IsRow.keep R0.out ((Below.refl _ _).alloc (Nat.le_refl _) _)
    replace R1 : Hid (IsRow .u8 (w5.alloc (.cells #[.bool p2, .bool g2, .int .i64 c2, .int .i64 v2, .int .i64 q2, .string d2] 23)) a1 l1 c1 z1) := IsRow.keep R1.out ((Below.refl _ _).alloc (Nat.le_refl _) _)
    go_wp2_with fail
    refine Calls.mono (HS2.out _) ?_
    rintro e w6 ⟨rfl, hb⟩
    replace F : Hid (w6.heap[w1.heap.size]? = some (.cells #[.bool p, .bool g, .int .i64 c, .int .i64 v, .int .i64 q, .string d] 23)) := get_below hb F.out (size_of_get F.out)
    replace Y : Hid (w6.heap[w5.heap.size]? = some (.cells #[.bool p2, .bool g2, .int .i64 c2, .int .i64 v2, .int .i64 q2, .string d2] 23)) := get_below hb Y.out (size_of_get Y.out)
    replace HB : Hid (Below w.heap.size w w6) := HB.out.trans (hb.mono HB.out.size)
    replace HE : Hid (Errs w6) := HE.out.below hb
    replace R0 : Hid (IsRow .u8 w6 a0 l0 c0 z0) := IsRow.keep R0.out hb
    replace R1 : Hid (IsRow .u8 w6 a1 l1 c1 z1) := IsRow.keep R1.out hb
    clear hb
    replace F : Hid ((w6.alloc (.cells #[.bool p2, .bool g2, .int .i64 c2, .int .i64 v2, .int .i64 q2, .string d2] 23)).heap[w1.heap.size]? = some (.cells #[.bool p, .bool g, .int .i64 c, .int .i64 v, .int .i64 q, .string d] 23)) := get_alloc F.out (size_of_get F.out)
    replace Y : Hid ((w6.alloc (.cells #[.bool p2, .bool g2, .int .i64 c2, .int .i64 v2, .int .i64 q2, .string d2] 23)).heap[w5.heap.size]? = some (.cells #[.bool p2, .bool g2, .int .i64 c2, .int .i64 v2, .int .i64 q2, .string d2] 23)) := get_alloc Y.out (size_of_get Y.out)
    have Z : Hid ((w6.alloc (.cells #[.bool p2, .bool g2, .int .i64 c2, .int .i64 v2, .int .i64 q2, .string d2] 23)).heap[w6.heap.size]? = some (.cells #[.bool p2, .bool g2, .int .i64 c2, .int .i64 v2, .int .i64 q2, .string d2] 23)) := get_new rfl
    replace HB : Hid (Below w.heap.size w (w6.alloc (.cells #[.bool p2, .bool g2, .int .i64 c2, .int .i64 v2, .int .i64 q2, .string d2] 23))) := HB.out.alloc HB.out.size _
    replace HE : Hid (Errs (w6.alloc (.cells #[.bool p2, .bool g2, .int .i64 c2, .int .i64 v2, .int .i64 q2, .string d2] 23))) := HE.out.below ((Below.refl _ _).alloc (Nat.le_refl _) _)
    replace R0 : Hid (IsRow .u8 (w6.alloc (.cells #[.bool p2, .bool g2, .int .i64 c2, .int .i64 v2, .int .i64 q2, .string d2] 23)) a0 l0 c0 z0) := IsRow.keep R0.out ((Below.refl _ _).alloc (Nat.le_refl _) _)
    replace R1 : Hid (IsRow .u8 (w6.alloc (.cells #[.bool p2, .bool g2, .int .i64 c2, .int .i64 v2, .int .i64 q2, .string d2] 23)) a1 l1 c1 z1) := IsRow.keep R1.out ((Below.refl _ _).alloc (Nat.le_refl _) _)
    cases ok with
    | false =>
      obtain ⟨Y_0, Y_1, Y_2, Y_3, Y_4, Y_5⟩ := cells6_of Y.out
      obtain ⟨Z_0, Z_1, Z_2, Z_3, Z_4, Z_5⟩ := cells6_of Z.out
      go_wp2_with fail
      clear Y_0 Y_1 Y_2 Y_3 Y_4 Y_5
      clear Z_0 Z_1 Z_2 Z_3 Z_4 Z_5
      refine (implFramePut_any p2 g2 c2 v2 q2 d2 _ hd2m).mono ?_
      rintro e w7 ⟨rfl, hb⟩
      replace F : Hid (w7.heap[w1.heap.size]? = some (.cells #[.bool p, .bool g, .int .i64 c, .int .i64 v, .int .i64 q, .string d] 23)) := get_below hb F.out (size_of_get F.out)
      replace Y : Hid (w7.heap[w5.heap.size]? = some (.cells #[.bool p2, .bool g2, .int .i64 c2, .int .i64 v2, .int .i64 q2, .string d2] 23)) := get_below hb Y.out (size_of_get Y.out)
      replace Z : Hid (w7.heap[w6.heap.size]? = some (.cells #[.bool p2, .bool g2, .int .i64 c2, .int .i64 v2, .int .i64 q2, .string d2] 23)) := get_below hb Z.out (size_of_get Z.out)
      replace HB : Hid (Below w.heap.size w w7) := HB.out.trans (hb.mono HB.out.size)
      replace HE : Hid (Errs w7) := HE.out.below hb
      replace R0 : Hid (IsRow .u8 w7 a0 l0 c0 z0) := IsRow.keep R0.out hb
      replace R1 : Hid (IsRow .u8 w7 a1 l1 c1 z1) := IsRow.keep R1.out hb
      clear hb
      generalize frPut p2 g2 c2 v2 q2 d2 = t2 at *
      go_wp2_with fail
      go_ret
      exact ⟨rfl, HB.out⟩
    | true =>
      have hft := HFT.out rfl
      obtain ⟨Y_0, Y_1, Y_2, Y_3, Y_4, Y_5⟩ := cells6_of Y.out
      obtain ⟨Z_0, Z_1, Z_2, Z_3, Z_4, Z_5⟩ := cells6_of Z.out
      go_wp2_with fail
      clear Y_0 Y_1 Y_2 Y_3 Y_4 Y_5
      clear Z_0 Z_1 Z_2 Z_3 Z_4 Z_5
      refine (implFramePut_any p2 g2 c2 v2 q2 d2 _ hd2m).mono ?_
      rintro e w7 ⟨rfl, hb⟩
      replace F : Hid (w7.heap[w1.heap.size]? = some (.cells #[.bool p, .bool g, .int .i64 c, .int .i64 v, .int .i64 q, .string d] 23)) := get_below hb F.out (size_of_get F.out)
      replace Y : Hid (w7.heap[w5.heap.size]? = some (.cells #[.bool p2, .bool g2, .int .i64 c2, .int .i64 v2, .int .i64 q2, .string d2] 23)) := get_below hb Y.out (size_of_get Y.out)
      replace Z : Hid (w7.heap[w6.heap.size]? = some (.cells #[.bool p2, .bool g2, .int .i64 c2, .int .i64 v2, .int .i64 q2, .string d2] 23)) := get_below hb Z.out (size_of_get Z.out)
      replace HB : Hid (Below w.heap.size w w7) := HB.out.trans (hb.mono HB.out.size)
      replace HE : Hid (Errs w7) := HE.out.below hb
      replace R0 : Hid (IsRow .u8 w7 a0 l0 c0 z0) := IsRow.keep R0.out hb
      replace R1 : Hid (IsRow .u8 w7 a1 l1 c1 z1) := IsRow.keep R1.out hb
      clear hb
      obtain ⟨hf1, hf2⟩ := hft
      rw [hf1]
      generalize fgN u = N at *
      have hN : (u.extract 0 N).size = N := by rw [ByteArray.size_extract]; omega
      have hle : ((N : Nat) : Int) ≤ u.size := by omega
      have hxx : ((u.extract 0 N).toList == (u.extract 0 N).toList) = true := by simp
      clear hf1 hf2 HFT
      go_wp2_with fail
      go_ret
      exact ⟨rfl, HB.out⟩
  | true =>
    obtain ⟨hk1, hk2⟩ := HBK.out rfl
    have hne : t.toList.isEmpty = false := by
      have := hz2 rfl
      rw [ByteArray.toList_eq]
      cases hx : t.data.toList with
      | nil => have h0 : t.data.toList.length = t.size := by simp
               rw [hx] at h0; simp at h0; omega
      | cons a l => rfl
    have htm : (t ++ ⟨#[85, 85]⟩ : ByteArray).size ≤ maxLen := by
      have : (⟨#[85, 85]⟩ : ByteArray).size = 2 := rfl
      rw [ByteArray.size_append]; unfold maxLen; omega
    have HI1 : Hid (∀ W, Errs W → Calls Tryd.prog 9 #[.string (t ++ ⟨#[85, 85]⟩)] W fun e w' => e = .returned (.tuple #[.agg #[.bool p, .bool g, .int .i64 c, .int .i64 v, .int .i64 q, .string d], .bool true]) ∧ Below W.heap.size W w') := fun W he => by
      have := implFrameGet_any (t ++ ⟨#[85, 85]⟩) W htm he
      rw [hk1, hk2] at this; exact this
    clear hk1 hk2
    clear hz2 hz3 HBK
    obtain ⟨F_0, F_1, F_2, F_3, F_4, F_5⟩ := cells6_of F.out
    replace F_0 := Bl.cell F_0 (size_of_get F.out)
    replace F_1 := Bl.cell F_1 (size_of_get F.out)
    replace F_2 := Bl.cell F_2 (size_of_get F.out)
    replace F_3 := Bl.cell F_3 (size_of_get F.out)
    replace F_4 := Bl.cell F_4 (size_of_get F.out)
    replace F_5 := Bl.cell F_5 (size_of_get F.out)
    refine wp_region_bl (by kernel_rfl) (by kernel_rfl) ?_
    repeat (go_big_quiet_step ((first | (go_at_call 21; exact calls_bl (HSP.out _)) | (go_at_call 22; exact calls_bl (HIO.out _)) | (go_at_call 23; exact calls_bl (HSO.out _)))))
    refine wpQuiet_nil ?_
    intro w3 hw
    obtain ⟨⟨w3, hb⟩, rfl⟩ := hw
    clear F_0 F_1 F_2 F_3 F_4 F_5
    replace F : Hid (w3.heap[w1.heap.size]? = some (.cells #[.bool p, .bool g, .int .i64 c, .int .i64 v, .int .i64 q, .string d] 23)) := get_below hb F.out (size_of_get F.out)
    replace HB : Hid (Below w.heap.size w w3) := HB.out.trans (hb.mono HB.out.size)
    replace HE : Hid (Errs w3) := HE.out.below hb
    replace R0 : Hid (IsRow .u8 w3 a0 l0 c0 z0) := IsRow.keep R0.out hb
    replace R1 : Hid (IsRow .u8 w3 a1 l1 c1 z1) := IsRow.keep R1.out hb
    clear hb
    obtain ⟨F_0, F_1, F_2, F_3, F_4, F_5⟩ := cells6_of F.out
    go_wp2_with fail
    clear F_0 F_1 F_2 F_3 F_4 F_5
    refine Calls.mono (HI1.out _ HE.out) ?_
    rintro e w4 ⟨rfl, hb⟩
    replace F : Hid (w4.heap[w1.heap.size]? = some (.cells #[.bool p, .bool g, .int .i64 c, .int .i64 v, .int .i64 q, .string d] 23)) := get_below hb F.out (size_of_get F.out)
    replace HB : Hid (Below w.heap.size w w4) := HB.out.trans (hb.mono HB.out.size)
    replace HE : Hid (Errs w4) := HE.out.below hb
    replace R0 : Hid (IsRow .u8 w4 a0 l0 c0 z0) := IsRow.keep R0.out hb
    replace R1 : Hid (IsRow .u8 w4 a1 l1 c1 z1) := IsRow.keep R1.out hb
    clear hb
    replace F : Hid ((w4.alloc (.cells #[.bool p, .bool g, .int .i64 c, .int .i64 v, .int .i64 q, .string d] 23)).heap[w1.heap.size]? = some (.cells #[.bool p, .bool g, .int .i64 c, .int .i64 v, .int .i64 q, .string d] 23)) := get_alloc F.out (size_of_get F.out)
    have X : Hid ((w4.alloc (.cells #[.bool p, .bool g, .int .i64 c, .int .i64 v, .int .i64 q, .string d] 23)).heap[w4.heap.size]? = some (.cells #[.bool p, .bool g, .int .i64 c, .int .i64 v, .int .i64 q, .string d] 23)) := get_new rfl
    replace HB : Hid (Below w.heap.size w (w4.alloc (.cells #[.bool p, .bool g, .int .i64 c, .int .i64 v, .int .i64 q, .string d] 23))) := HB.out.alloc HB.out.size _
    replace HE : Hid (Errs (w4.alloc (.cells #[.bool p, .bool g, .int .i64 c, .int .i64 v, .int .i64 q, .string d] 23))) := HE.out.below ((Below.refl _ _).alloc (Nat.le_refl _) _)
    replace R0 : Hid (IsRow .u8 (w4.alloc (.cells #[.bool p, .bool g, .int .i64 c, .int .i64 v, .int .i64 q, .string d] 23)) a0 l0 c0 z0) := IsRow.keep R0.out ((Below.refl _ _).alloc (Nat.le_refl _) _)
    replace R1 : Hid (IsRow .u8 (w4.alloc (.cells #[.bool p, .bool g, .int .i64 c, .int .i64 v, .int .i64 q, .string d] 23)) a1 l1 c1 z1) := IsRow.keep R1.out ((Below.refl _ _).alloc (Nat.le_refl _) _)
    obtain ⟨F_0, F_1, F_2, F_3, F_4, F_5⟩ := cells6_of F.out
    obtain ⟨X_0, X_1, X_2, X_3, X_4, X_5⟩ := cells6_of X.out
    go_wp2_with fail
    clear F_0 F_1 F_2 F_3 F_4 F_5
    clear X_0 X_1 X_2 X_3 X_4 X_5
    refine (DrawFrameGet_any a1 l1 c1 z1 _ R1.out).mono ?_
    rintro e w5 ⟨u, hu, rfl, hb⟩
    replace F : Hid (w5.heap[w1.heap.size]? = some (.cells #[.bool p, .bool g, .int .i64 c, .int .i64 v, .int .i64 q, .string d] 23)) := get_below hb F.out (size_of_get F.out)
    replace X : Hid (w5.heap[w4.heap.size]? = some (.cells #[.bool p, .bool g, .int .i64 c, .int .i64 v, .int .i64 q, .string d] 23)) := get_below hb X.out (size_of_get X.out)
    replace HB : Hid (Below w.heap.size w w5) := HB.out.trans (hb.mono HB.out.size)
    replace HE : Hid (Errs w5) := HE.out.below hb
    replace R0 : Hid (IsRow .u8 w5 a0 l0 c0 z0) := IsRow.keep R0.out hb
    replace R1 : Hid (IsRow .u8 w5 a1 l1 c1 z1) := IsRow.keep R1.out hb
    clear hb
    have hum : u.size ≤ maxLen := by unfold maxLen; omega
    obtain ⟨p2, g2, c2, v2, q2, d2, hv2, hd2⟩ := fgV_agg2 u
    have hd2m : d2.size ≤ maxLen := by omega
    generalize hok : fgOk u = ok
    have HI2 : Hid (∀ W, Errs W → Calls Tryd.prog 9 #[.string u] W fun e w' => e = .returned (.tuple #[.agg #[.bool p2, .bool g2, .int .i64 c2, .int .i64 v2, .int .i64 q2, .string d2], .bool ok]) ∧ Below W.heap.size W w') := fun W he => by
      have := implFrameGet_any u W hum he
      rw [hv2, hok] at this; exact this
    have HS2 : Hid (∀ W, Calls Tryd.prog 8 #[.string u] W fun e w' => e = .returned (.tuple #[.agg #[.bool p2, .bool g2, .int .i64 c2, .int .i64 v2, .int .i64 q2, .string d2], .bool ok]) ∧ Below W.heap.size W w') := fun W => by
      have := specFrameGet_any u W hum
      rw [hv2, hok] at this; exact this
    have HFT : Hid (ok = true → frPut p2 g2 c2 v2 q2 d2 = u.extract 0 (fgN u) ∧ fgN u ≤ u.size) := fun h => fg_forth (hok.trans h) hv2
    clear hok hv2
    go_wp2_with fail
    refine Calls.mono (HI2.out _ HE.out) ?_
    rintro e w6 ⟨rfl, hb⟩
    replace F : Hid (w6.heap[w1.heap.size]? = some (.cells #[.bool p, .bool g, .int .i64 c, .int .i64 v, .int .i64 q, .string d] 23)) := get_below hb F.out (size_of_get F.out)
    replace X : Hid (w6.heap[w4.heap.size]? = some (.cells #[.bool p, .bool g, .int .i64 c, .int .i64 v, .int .i64 q, .string d] 23)) := get_below hb X.out (size_of_get X.out)
    replace HB : Hid (Below w.heap.size w w6) := HB.out.trans (hb.mono HB.out.size)
    replace HE : Hid (Errs w6) := HE.out.below hb
    replace R0 : Hid (IsRow .u8 w6 a0 l0 c0 z0) := IsRow.keep R0.out hb
    replace R1 : Hid (IsRow .u8 w6 a1 l1 c1 z1) := IsRow.keep R1.out hb
    clear hb
    replace F : Hid ((w6.alloc (.cells #[.bool p2, .bool g2, .int .i64 c2, .int .i64 v2, .int .i64 q2, .string d2] 23)).heap[w1.heap.size]? = some (.cells #[.bool p, .bool g, .int .i64 c, .int .i64 v, .int .i64 q, .string d] 23)) := get_alloc F.out (size_of_get F.out)
    replace X : Hid ((w6.alloc (.cells #[.bool p2, .bool g2, .int .i64 c2, .int .i64 v2, .int .i64 q2, .string d2] 23)).heap[w4.heap.size]? = some (.cells #[.bool p, .bool g, .int .i64 c, .int .i64 v, .int .i64 q, .string d] 23)) := get_alloc X.out (size_of_get X.out)
    have Y : Hid ((w6.alloc (.cells #[.bool p2, .bool g2, .int .i64 c2, .int .i64 v2, .int .i64 q2, .string d2] 23)).heap[w6.heap.size]? = some (.cells #[.bool p2, .bool g2, .int .i64 c2, .int .i64 v2, .int .i64 q2, .string d2] 23)) := get_new rfl
    replace HB : Hid (Below w.heap.size w (w6.alloc (.cells #[.bool p2, .bool g2, .int .i64 c2, .int .i64 v2, .int .i64 q2, .string d2] 23))) := HB.out.alloc HB.out.size _
    replace HE : Hid (Errs (w6.alloc (.cells #[.bool p2, .bool g2, .int .i64 c2, .int .i64 v2, .int .i64 q2, .string d2] 23))) := HE.out.below ((Below.refl _ _).alloc (Nat.le_refl _) _)
    replace R0 : Hid (IsRow .u8 (w6.alloc (.cells #[.bool p2, .bool g2, .int .i64 c2, .int .i64 v2, .int .i64 q2, .string d2] 23)) a0 l0 c0 z0) := IsRow.keep R0.out ((Below.refl _ _).alloc (Nat.le_refl _) _)
    replace R1 : Hid (IsRow .u8 (w6.alloc (.cells #[.bool p2, .bool g2, .int .i64 c2, .int .i64 v2, .int .i64 q2, .string d2] 23)) a1 l1 c1 z1) := IsRow.keep R1.out ((Below.refl _ _).alloc (Nat.le_refl _) _)
    go_wp2_with fail
    refine Calls.mono (HS2.out _) ?_
    rintro e w7 ⟨rfl, hb⟩
    replace F : Hid (w7.heap[w1.heap.size]? = some (.cells #[.bool p, .bool g, .int .i64 c, .int .i64 v, .int .i64 q, .string d] 23)) := get_below hb F.out (size_of_get F.out)
    replace X : Hid (w7.heap[w4.heap.size]? = some (.cells #[.bool p, .bool g, .int .i64 c, .int .i64 v, .int .i64 q, .string d] 23)) := get_below hb X.out (size_of_get X.out)
    replace Y : Hid (w7.heap[w6.heap.size]? = some (.cells #[.bool p2, .bool g2, .int .i64 c2, .int .i64 v2, .int .i64 q2, .string d2] 23)) := get_below hb Y.out (size_of_get Y.out)
    replace HB : Hid (Below w.heap.size w w7) := HB.out.trans (hb.mono HB.out.size)
    replace HE : Hid (Errs w7) := HE.out.below hb
    replace R0 : Hid (IsRow .u8 w7 a0 l0 c0 z0) := IsRow.keep R0.out hb
    replace R1 : Hid (IsRow .u8 w7 a1 l1 c1 z1) := IsRow.keep R1.out hb
    clear hb
    replace F : Hid ((w7.alloc (.cells #[.bool p2, .bool g2, .int .i64 c2, .int .i64 v2, .int .i64 q2, .string d2] 23)).heap[w1.heap.size]? = some (.cells #[.bool p, .bool g, .int .i64 c, .int .i64 v, .int .i64 q, .string d] 23)) := get_alloc F.out (size_of_get F.out)
    replace X : Hid ((w7.alloc (.cells #[.bool p2, .bool g2, .int .i64 c2, .int .i64 v2, .int .i64 q2, .string d2] 23)).heap[w4.heap.size]? = some (.cells #[.bool p, .bool g, .int .i64 c, .int .i64 v, .int .i64 q, .string d] 23)) := get_alloc X.out (size_of_get X.out)
    replace Y : Hid ((w7.alloc (.cells #[.bool p2, .bool g2, .int .i64 c2, .int .i64 v2, .int .i64 q2, .string d2] 23)).heap[w6.heap.size]? = some (.cells #[.bool p2, .bool g2, .int .i64 c2, .int .i64 v2, .int .i64 q2, .string d2] 23)) := get_alloc Y.out (size_of_get Y.out)
    have Z : Hid ((w7.alloc (.cells #[.bool p2, .bool g2, .int .i64 c2, .int .i64 v2, .int .i64 q2, .string d2] 23)).heap[w7.heap.size]? = some (.cells #[.bool p2, .bool g2, .int .i64 c2, .int .i64 v2, .int .i64 q2, .string d2] 23)) := get_new rfl
    replace HB : Hid (Below w.heap.size w (w7.alloc (.cells #[.bool p2, .bool g2, .int .i64 c2, .int .i64 v2, .int .i64 q2, .string d2] 23))) := HB.out.alloc HB.out.size _
    replace HE : Hid (Errs (w7.alloc (.cells #[.bool p2, .bool g2, .int .i64 c2, .int .i64 v2, .int .i64 q2, .string d2] 23))) := HE.out.below ((Below.refl _ _).alloc (Nat.le_refl _) _)
    replace R0 : Hid (IsRow .u8 (w7.alloc (.cells #[.bool p2, .bool g2, .int .i64 c2, .int .i64 v2, .int .i64 q2, .string d2] 23)) a0 l0 c0 z0) := IsRow.keep R0.out ((Below.refl _ _).alloc (Nat.le_refl _) _)
    replace R1 : Hid (IsRow .u8 (w7.alloc (.cells #[.bool p2, .bool g2, .int .i64 c2, .int .i64 v2, .int .i64 q2, .string d2] 23)) a1 l1 c1 z1) := IsRow.keep R1.out ((Below.refl _ _).alloc (Nat.le_refl _) _)
    cases ok with
    | false =>
      obtain ⟨Y_0, Y_1, Y_2, Y_3, Y_4, Y_5⟩ := cells6_of Y.out
      obtain ⟨Z_0, Z_1, Z_2, Z_3, Z_4, Z_5⟩ := cells6_of Z.out
      go_wp2_with fail
      clear Y_0 Y_1 Y_2 Y_3 Y_4 Y_5
      clear Z_0 Z_1 Z_2 Z_3 Z_4 Z_5
      refine (implFramePut_any p2 g2 c2 v2 q2 d2 _ hd2m).mono ?_
      rintro e w8 ⟨rfl, hb⟩
      replace F : Hid (w8.heap[w1.heap.size]? = some (.cells #[.bool p, .bool g, .int .i64 c, .int .i64 v, .int .i64 q, .string d] 23)) := get_below hb F.out (size_of_get F.out)
      replace X : Hid (w8.heap[w4.heap.size]? = some (.cells #[.bool p, .bool g, .int .i64 c, .int .i64 v, .int .i64 q, .string d] 23)) := get_below hb X.out (size_of_get X.out)
      replace Y : Hid (w8.heap[w6.heap.size]? = some (.cells #[.bool p2, .bool g2, .int .i64 c2, .int .i64 v2, .int .i64 q2, .string d2] 23)) := get_below hb Y.out (size_of_get Y.out)
      replace Z : Hid (w8.heap[w7.heap.size]? = some (.cells #[.bool p2, .bool g2, .int .i64 c2, .int .i64 v2, .int .i64 q2, .string d2] 23)) := get_below hb Z.out (size_of_get Z.out)
      replace HB : Hid (Below w.heap.size w w8) := HB.out.trans (hb.mono HB.out.size)
      replace HE : Hid (Errs w8) := HE.out.below hb
      replace R0 : Hid (IsRow .u8 w8 a0 l0 c0 z0) := IsRow.keep R0.out hb
      replace R1 : Hid (IsRow .u8 w8 a1 l1 c1 z1) := IsRow.keep R1.out hb
      clear hb
      generalize frPut p2 g2 c2 v2 q2 d2 = t2 at *
      go_wp2_with fail
      go_ret
      exact ⟨rfl, HB.out⟩
    | true =>
      have hft := HFT.out rfl
      obtain ⟨Y_0, Y_1, Y_2, Y_3, Y_4, Y_5⟩ := cells6_of Y.out
      obtain ⟨Z_0, Z_1, Z_2, Z_3, Z_4, Z_5⟩ := cells6_of Z.out
      go_wp2_with fail
      clear Y_0 Y_1 Y_2 Y_3 Y_4 Y_5
      clear Z_0 Z_1 Z_2 Z_3 Z_4 Z_5
      refine (implFramePut_any p2 g2 c2 v2 q2 d2 _ hd2m).mono ?_
      rintro e w8 ⟨rfl, hb⟩
      replace F : Hid (w8.heap[w1.heap.size]? = some (.cells #[.bool p, .bool g, .int .i64 c, .int .i64 v, .int .i64 q, .string d] 23)) := get_below hb F.out (size_of_get F.out)
      replace X : Hid (w8.heap[w4.heap.size]? = some (.cells #[.bool p, .bool g, .int .i64 c, .int .i64 v, .int .i64 q, .string d] 23)) := get_below hb X.out (size_of_get X.out)
      replace Y : Hid (w8.heap[w6.heap.size]? = some (.cells #[.bool p2, .bool g2, .int .i64 c2, .int .i64 v2, .int .i64 q2, .string d2] 23)) := get_below hb Y.out (size_of_get Y.out)
      replace Z : Hid (w8.heap[w7.heap.size]? = some (.cells #[.bool p2, .bool g2, .int .i64 c2, .int .i64 v2, .int .i64 q2, .string d2] 23)) := get_below hb Z.out (size_of_get Z.out)
      replace HB : Hid (Below w.heap.size w w8) := HB.out.trans (hb.mono HB.out.size)
      replace HE : Hid (Errs w8) := HE.out.below hb
      replace R0 : Hid (IsRow .u8 w8 a0 l0 c0 z0) := IsRow.keep R0.out hb
      replace R1 : Hid (IsRow .u8 w8 a1 l1 c1 z1) := IsRow.keep R1.out hb
      clear hb
      obtain ⟨hf1, hf2⟩ := hft
      rw [hf1]
      generalize fgN u = N at *
      have hN : (u.extract 0 N).size = N := by rw [ByteArray.size_extract]; omega
      have hle : ((N : Nat) : Int) ≤ u.size := by omega
      have hxx : ((u.extract 0 N).toList == (u.extract 0 N).toList) = true := by simp
      clear hf1 hf2 HFT
      go_wp2_with fail
      go_ret
      exact ⟨rfl, HB.out⟩
theorem FnFrameBack_g0 : Tryd.prog.globalNamed "loop.example/skyway/impl.errShort" = some 1 := by kernel_rfl
theorem FnFrameBack_t0 : (Tryd.prog.globals[1]?).map (·.type) = some 45 := by kernel_rfl
theorem FnFrameBack_g1 : Tryd.prog.globalNamed "loop.example/skyway/impl.errOther" = some 0 := by kernel_rfl
theorem FnFrameBack_t1 : (Tryd.prog.globals[0]?).map (·.type) = some 45 := by kernel_rfl
theorem FnFrameBack_star : "*" ++ "errors.errorString" = "*errors.errorString" := by decide
theorem FnFrameBack_rowP (u : TypeId) (h : Tryd.prog.typeName? 3 u = some "*errors.errorString") : u = 94 :=
  typeName_ptr_named (nm := "errors.errorString") (by rw [FnFrameBack_star]; kernel_rfl) (by kernel_rfl) (by decide) u (by rw [FnFrameBack_star]; exact h)
theorem FnFrameBack_c1 : Tryd.prog.cellsOf 112 = 1 := by kernel_rfl
theorem FnFrameBack_c2 : Tryd.prog.cellsOf 9 = 1 := by kernel_rfl
def FnFrameBack_list : List (String × DataW Unit) := [("loop.example/skyway/impl.errShort", Rows.laid_loop_example_skyway_impl_errShort), ("loop.example/skyway/impl.errOther", Rows.laid_loop_example_skyway_impl_errOther)]
theorem FnFrameBack_met (os : Os) (args : Array Value) : laidMetH Tryd.prog FnFrameBack_list ((World.doorLaid Tryd.prog 400 os).forCall (fun _ _ => 0) ⟨#[], args, []⟩).memory :=
  laidMetH_of_parts3 (fuel := 8) (laidMet_of_run' 8 (by kernel_rfl) (by kernel_rfl)) (by kernel_rfl) (by kernel_rfl)
theorem FnFrameBack_var {W W' : World} {n : String} {cs : Array Value} (k : Below W.heap.size W W') (h : W.var? Tryd.prog n = some cs) : W'.var? Tryd.prog n = some cs := by
  unfold World.var? at h ⊢
  cases hg : Tryd.prog.globalNamed n with
  | none => simp [hg] at h
  | some g =>
    simp only [hg, Option.bind_some] at h ⊢
    have hlt : g < W.heap.size := by
      rcases Nat.lt_or_ge g W.heap.size with h' | h'
      · exact h'
      · simp [Array.getElem?_eq_none h'] at h
    rw [k.block g hlt]; exact h
theorem FnFrameBack_of {W : World} (h : laidMetH Tryd.prog FnFrameBack_list W) : ∃ x0 x1 : Addr, W.var? Tryd.prog "loop.example/skyway/impl.errShort" = some #[.iface 94 (.pointer (some x0))] ∧ W.var? Tryd.prog "loop.example/skyway/impl.errOther" = some #[.iface 94 (.pointer (some x1))] := by
  rw [MakeChecks.laidMetH_plain _ _ _ (by kernel_rfl)] at h
  obtain ⟨x0, _, v0, _⟩ := laid_sentinel h FnFrameBack_g0 FnFrameBack_t0 Tryd.underlying45 FnFrameBack_rowP Tryd.underlying94 Tryd.underlying112 rfl rfl Tryd.underlying9 FnFrameBack_c1 FnFrameBack_c2
  obtain ⟨x1, _, v1, _⟩ := laid_sentinel (h).tail FnFrameBack_g1 FnFrameBack_t1 Tryd.underlying45 FnFrameBack_rowP Tryd.underlying94 Tryd.underlying112 rfl rfl Tryd.underlying9 FnFrameBack_c1 FnFrameBack_c2
  exact ⟨x0, x1, v0, v1⟩
theorem FnFrameBack_own : ownKnob Tryd.prog.godebug = none := by kernel_rfl
theorem FnFrameBack_laidOut : laidOutB Tryd.prog = true := by kernel_rfl
set_option maxRecDepth 100000 in
theorem FnFrameBack_lifted (os : Os) (started : os.Started) (H : Type) (enc : TypeId × Value → H) :
    ReturnsInHanded {} Tryd.checked os 7 .any (fun w args => (Rows.fnFrameBackSpec.pre enc Tryd.prog Tryd.f7 [] false w args ∧ laidMetH Tryd.prog FnFrameBack_list w) ∧ sizedMet enc Tryd.prog Tryd.f7 (OpenSpec.ofChange Rows.fnFrameBackSpec) false w args) (Rows.fnFrameBackSpec.post enc Tryd.prog Tryd.f7 false true false false) := by
  refine returnsInHanded_of_change_and (C := Tryd.checked) (X := fun w _ => laidMetH Tryd.prog FnFrameBack_list w) (fun _ _ _ hh h => h.of_heap hh) FnFrameBack_own started (by kernel_rfl) Tryd.func7
    (ChangeSpec.witness_shaped (enc := enc) (C := Tryd.checked) (os := os) (X := fun w _ => laidMetH Tryd.prog FnFrameBack_list w) false (World.doorLaid Tryd.prog 400 os) #[.slice none 0 0, .slice none 0 0] 8 rfl (World.shaped_of_RefB (by kernel_rfl) (by kernel_rfl)) (by kernel_rfl) (by kernel_rfl) (by kernel_rfl) (FnFrameBack_met os _)) ?_
  intro W base args ds gs before hval0 hW hcnd _ hL _
  have hval : ∀ (j : Nat) t v, Tryd.f7.params[j]? = some t → args[j]? = some v → Value.okWide Tryd.prog W .any base t v := hval0
  have hW' := hW
  obtain ⟨p, q, hA0, hV0, rfl, hfz, hnd⟩ := hW
  have hV : DataW.TrodVars enc Tryd.prog W (fun _ => true) ["loop.example/skyway/impl.errShort", "loop.example/skyway/impl.errOther"] gs q := hV0
  obtain ⟨x0, x1, hv0, hv1⟩ := FnFrameBack_of hL
  have hA : DataW.TrodAll enc Tryd.prog W 0 (fun _ => true) true Tryd.f7.params.toList args.toList ds p := hA0
  rw [Tryd.params7] at hA hval
  obtain ⟨v0, vs0, d0, ds0, p0, q0, hargs, rfl, rfl, h0, r0⟩ := trodAll_cons hA
  obtain ⟨v1, vs1, d1, ds1, p1, q1, rfl, rfl, rfl, h1, r1⟩ := trodAll_cons r0
  obtain ⟨rfl, rfl, rfl⟩ := trodAll_nil r1
  obtain rfl : args = #[v0, v1] := by cases args; simp_all
  obtain ⟨rfl, rfl⟩ := hV.unique (vars_read2 enc FnFrameBack_g0 FnFrameBack_t0 Tryd.underlying45 hv0 trivial FnFrameBack_g1 FnFrameBack_t1 Tryd.underlying45 hv1 trivial _)
  obtain ⟨a0, len0, cap0, rfl⟩ := okWide_slice Tryd.underlying33 (hval 0 33 v0 rfl rfl)
  have k0 := h0
  have lt0 : ∀ x ∈ p0, x.block < W.heap.size := by obtain ⟨m, hm⟩ := k0; exact DataW.trod_lt m _ _ _ hm
  obtain ⟨z0, w0⟩ : ∃ zs, IsRow .u8 W a0 len0 cap0 zs := by
    obtain ⟨fuel, hf⟩ := h0
    rcases open_ints Tryd.underlying33 Tryd.underlying5 (by kernel_rfl) hf with ⟨hcs, _⟩ | ⟨x, l, c, zs, hcs, _, hl, hm, hz, _, hcell, hwz⟩
    · simp [Value.cells] at hcs
      obtain ⟨rfl, rfl, rfl⟩ := hcs
      exact ⟨[], .inl ⟨rfl, rfl, rfl, rfl⟩⟩
    · simp [Value.cells] at hcs
      obtain ⟨rfl, rfl, rfl⟩ := hcs
      exact ⟨zs, .inr ⟨_, rfl, hl, hm, by simpa using hz, hcell, hwz⟩⟩
  obtain ⟨a1, len1, cap1, rfl⟩ := okWide_slice Tryd.underlying33 (hval 1 33 v1 rfl rfl)
  have k1 := h1
  have lt1 : ∀ x ∈ p1, x.block < W.heap.size := by obtain ⟨m, hm⟩ := k1; exact DataW.trod_lt m _ _ _ hm
  obtain ⟨z1, w1⟩ : ∃ zs, IsRow .u8 W a1 len1 cap1 zs := by
    obtain ⟨fuel, hf⟩ := h1
    rcases open_ints Tryd.underlying33 Tryd.underlying5 (by kernel_rfl) hf with ⟨hcs, _⟩ | ⟨x, l, c, zs, hcs, _, hl, hm, hz, _, hcell, hwz⟩
    · simp [Value.cells] at hcs
      obtain ⟨rfl, rfl, rfl⟩ := hcs
      exact ⟨[], .inl ⟨rfl, rfl, rfl, rfl⟩⟩
    · simp [Value.cells] at hcs
      obtain ⟨rfl, rfl, rfl⟩ := hcs
      exact ⟨zs, .inr ⟨_, rfl, hl, hm, by simpa using hz, hcell, hwz⟩⟩
  clear hA0 hval0 hV0
  refine (FnFrameBack_walk a0 len0 cap0 z0 a1 len1 cap1 z1 W w0 w1 ⟨x1, x0, (by simpa using World.var?_cell FnFrameBack_g1 hv1 0), (by simpa using World.var?_cell FnFrameBack_g0 hv0 0)⟩).mono fun e W' ⟨he, bel⟩ => ?_
  subst he
  exact ⟨_, rfl, _, _, _, [], _, _, hW', trodAll_mk1 (shut_bool Tryd.underlying4 _), (trodAll_cons_mk (Below.trod FnFrameBack_laidOut (by kernel_rfl) (of_decide_eq_true (by kernel_rfl)) k0 bel lt0) (trodAll_cons_mk (Below.trod FnFrameBack_laidOut (by kernel_rfl) (of_decide_eq_true (by kernel_rfl)) k1 bel lt1) trodAll_mk0)), (vars_read2 enc FnFrameBack_g0 FnFrameBack_t0 Tryd.underlying45 (FnFrameBack_var bel hv0) trivial FnFrameBack_g1 FnFrameBack_t1 Tryd.underlying45 (FnFrameBack_var bel hv1) trivial _), bel.frame _, fun h => by cases h⟩
theorem FnFrameBack_holds : Rows.FnFrameBackSaid :=
  OpenClaim.holds_of_wide 7 Tryd.f7 rfl rfl rfl rfl rfl rfl rfl ⟨rfl, rfl, rfl, rfl, rfl⟩ rfl rfl rfl rfl rfl (by kernel_rfl) Tryd.func7 (by kernel_rfl)
    (of_decide_eq_true (by kernel_rfl)) (by unfold Func.isWrapper; first | (rw [if_pos (by decide +kernel)]; kernel_rfl) | (rw [if_neg (by decide +kernel)]; exact ⟨rfl, rfl⟩))
    (fun os started H enc _ => FnFrameBack_lifted os started H enc)
theorem FnFrameBack_card : Rows.FnFrameBackCardSaid :=
  Claim7.holds_tied_plain_at .later [] [.sentinel, .sentinel] true (true, "ff472f51be62a7d9dcdcd6700b3da447531790d306e95748407a7170847a67f9") true
    FnFrameBack_holds (fun _ h => by cases h) (by kernel_rfl) (fun _ h => by cases h) fnFrameBack_row_tie rfl ⟨rfl, rfl⟩ (by kernel_rfl) rfl
    (fun f fn hf hfn => by
      obtain rfl : f = 7 := Option.some.inj ((show Tryd.prog.funcNamed "loop.example/skyway/laws.FnFrameBack" = some 7 by kernel_rfl).symm.trans hf) |>.symm
      obtain rfl : fn = Tryd.f7 := (Option.some.inj (Tryd.func7.symm.trans hfn)).symm
      exact ⟨by kernel_rfl, fun j t ht => by
        rw [Tryd.params7] at ht
        have hm : t ∈ ([33, 33] : List TypeId) := by simpa using Array.mem_of_getElem? ht
        have hall : (([33, 33] : List TypeId).all fun u => !Tryd.prog.wantsStandIn u) = true := by kernel_rfl
        exact (show Tryd.prog.wantsStandIn t = false by simpa using List.all_eq_true.1 hall t hm)⟩)
    (by kernel_rfl)
#print axioms FnFrameBack_card
end Go.Proofs.YtlifigpkjbnkhaaDoor
