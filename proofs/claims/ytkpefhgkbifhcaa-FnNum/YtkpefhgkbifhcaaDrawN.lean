/- The contracts of spec.DrawNumPut and spec.DrawNumGet. -/
import Derived.Test.YtkpefhgkbifhcaaDrawT
namespace Go.Proofs.Ytkpefhgkbifhcaa
open Go.ChangeShapes Go.WideShapes Go.ChangeAt Go.RowKit
set_option linter.unusedVariables false

set_option maxHeartbeats 400000 in
theorem DrawNumGet_any (a : Option Addr) (len cap : Nat) (zs : List Int) (w : World) (h : IsRow .u8 w a len cap zs) :
    Calls Try.prog 15 #[.slice a len cap] w fun e w' => ∃ (s : ByteArray) (p n : Int), s.size ≤ 9 ∧ e = .returned (.tuple #[.string s, .int .i64 p, .int .i64 n]) ∧ Below w.heap.size w w' := by
  have H : Hid (IsRow .u8 w a len cap zs) := h
  clear h
  go_enter Try.func15, Try.ntmps15
  go_wp2_with fail
  refine (l1Open_any a len cap zs _ H.out).mono ?_
  rintro e w1 ⟨rfl, hb1, hr1⟩
  go_wp2_with fail
  refine (l15Text_any 0 9 w.heap.size w1 (by omega) (by omega) hr1).mono ?_
  rintro e w2 ⟨s, hs, rfl, ho2, hr2⟩
  have HB : Hid (Below w.heap.size w w2) := hb1.trans (ho2.below (Nat.le_refl _) hb1.size)
  have HR : Hid (Rd (0 + 1 + 3 * 9) w2 w.heap.size) := hr2
  clear hb1 hr1 ho2 hr2
  go_wp2_with fail
  refine (pickI (0 + 1 + 3 * 9) w.heap.size _ _ (by omega) (by omega) (by omega) HR.out).mono ?_
  rintro e w3 ⟨v, hv, rfl, ho3, hr3⟩
  have HB3 : Hid (Below w.heap.size w w3) := HB.out.trans (ho3.below (Nat.le_refl _) HB.out.size)
  clear ho3
  go_wp2_with fail
  refine (pickI (0 + 1 + 3 * 9 + 1) w.heap.size _ _ (by omega) (by omega) (by omega) hr3).mono ?_
  rintro e w4 ⟨v4, hv4, rfl, ho4, hr4⟩
  have HB4 : Hid (Below w.heap.size w w4) := HB3.out.trans (ho4.below (Nat.le_refl _) HB3.out.size)
  clear ho4 hr4 hr3
  go_wp2_with fail
  go_ret3
  exact ⟨s, _, _, hs, rfl, HB4.out⟩

theorem six_cells (w w' : World) (g v : Nat) (c0 c1 c2 c3 : Int) (hv : v < 12) (ho : Only g (w.alloc (.cells #[.int .i64 c0, .int .i64 c1, .int .i64 c2, .int .i64 c3, .int .i64 (-1), .int .i64 0] 3)) w') (hg : g < w.heap.size) :
    ∃ y : Int, w'.cell? ⟨w.heap.size, v * 6 / 12, none⟩ = some (.int .i64 y) := by
  rw [ho.cell (p := ⟨w.heap.size, v * 6 / 12, none⟩) (by simp) (by simp; omega), World.cell?_alloc_mark]
  have h6 : v * 6 / 12 = 0 ∨ v * 6 / 12 = 1 ∨ v * 6 / 12 = 2 ∨ v * 6 / 12 = 3 ∨ v * 6 / 12 = 4 ∨ v * 6 / 12 = 5 := by omega
  rcases h6 with h | h | h | h | h | h <;> rw [h] <;> exact ⟨_, rfl⟩
set_option maxHeartbeats 1000000 in
theorem DrawNumPut_any (a : Option Addr) (len cap : Nat) (zs : List Int) (w : World) (h : IsRow .u8 w a len cap zs) :
    Calls Try.prog 11 #[.slice a len cap] w fun e w' => ∃ p n : Int, e = .returned (.tuple #[.int .i64 p, .int .i64 n]) ∧ Below w.heap.size w w' := by
  have H : Hid (IsRow .u8 w a len cap zs) := h
  clear h
  go_enter Try.func11, Try.ntmps11
  go_wp2_with fail
  refine (l1Open_any a len cap zs _ H.out).mono ?_
  rintro e w1 ⟨rfl, hb1, hr1⟩
  go_wp2_with fail
  refine (pickI 0 w.heap.size _ _ (by omega) (by omega) (by omega) hr1).mono ?_
  rintro e w2 ⟨n, hn, rfl, ho2, hr2⟩
  have HB2 : Hid (Below w.heap.size w w2) := hb1.trans (ho2.below (Nat.le_refl _) hb1.size)
  clear ho2 hb1 hr1
  go_wp2_with fail
  refine (pickI (0 + 1) w.heap.size _ _ (by omega) (by omega) (by omega) hr2).mono ?_
  rintro e w3 ⟨x1, hx1, rfl, ho3, hr3⟩
  have HB3 : Hid (Below w.heap.size w w3) := HB2.out.trans (ho3.below (Nat.le_refl _) HB2.out.size)
  clear ho3 hr2
  go_wp2_with fail
  refine (pickI (0 + 1 + 1) w.heap.size _ _ (by omega) (by omega) (by omega) hr3).mono ?_
  rintro e w4 ⟨x2, hx2, rfl, ho4, hr4⟩
  have HB4 : Hid (Below w.heap.size w w4) := HB3.out.trans (ho4.below (Nat.le_refl _) HB3.out.size)
  clear ho4 hr3
  go_wp2_with fail
  refine (pickI (0 + 1 + 1 + 1) w.heap.size _ _ (by omega) (by omega) (by omega) hr4).mono ?_
  rintro e w5 ⟨x3, hx3, rfl, ho5, hr5⟩
  have HB5 : Hid (Below w.heap.size w w5) := HB4.out.trans (ho5.below (Nat.le_refl _) HB4.out.size)
  clear ho5 hr4
  have hp1 := pow256_pos n
  have hp2 : (256 : Int) ^ n ≤ 281474976710656 := pow256_le n 6 (by omega)
  have HR5 : Hid (Rd (0 + 1 + 1 + 1 + 1) w5 w.heap.size) := hr5
  clear hr5
  go_wp2_with fail
  refine (l1Full_any _ _ (by omega) (by omega)).mono ?_
  rintro e w6 ⟨rfl, rfl⟩
  rw [Int.toNat_natCast]
  generalize (256 : Int) ^ n = P at *
  go_wp2_with fail
  refine (l1Full_any _ _ (by omega) (by omega)).mono ?_
  rintro e w6 ⟨rfl, rfl⟩
  rw [Int.toNat_natCast]
  generalize (256 : Int) ^ n = P2
  go_wp2_with fail
  refine (pickI (0 + 1 + 1 + 1 + 1) w.heap.size _ _ (by omega) (by omega) (by omega) (HR5.out.below ((Below.refl _ _).alloc (Nat.le_refl _) _))).mono ?_
  rintro e w7 ⟨v, hv, rfl, ho7, hr7⟩
  obtain ⟨y, hy⟩ := six_cells w6 w7 w.heap.size v x1 (x2 * 256 + x3) (P - 1) P2 (by omega) ho7 HR5.out.lt
  have HB7 : Hid (Below w.heap.size w w7) := (HB5.out.alloc HB5.out.size _).trans (ho7.below (Nat.le_refl _) (by have := HB5.out.size; simp; omega))
  have hi6 : v * 6 / 12 < 6 := by omega
  clear ho7 hr7 HR5
  go_wp2_with fail
  go_ret2
  exact ⟨_, _, rfl, HB7.out⟩
end Go.Proofs.Ytkpefhgkbifhcaa
