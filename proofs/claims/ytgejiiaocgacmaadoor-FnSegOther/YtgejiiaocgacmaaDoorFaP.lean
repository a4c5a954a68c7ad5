/- The contracts of FarmPut, both sides. -/
import Derived.Test.YtgejiiaocgacmaaDoorFa
import Derived.Test.YtgejiiaocgacmaaDoorNumA
import Derived.Test.YtgejiiaocgacmaaDoorHeap
import Derived.Deep.RegionHeld2
import Derived.WalkSmall
namespace Go.Proofs.YtgejiiaocgacmaaDoor
open Go.ChangeShapes Go.WideShapes Go.ChangeAt Go.RowKit
set_option linter.unusedVariables false

def b01 (b : Bool) : Int := if b then 1 else 0
def flagsOf (s wt ag : Bool) (c : Int) : Int := b01 s * 32 + b01 wt * 16 + b01 ag * 8 + c * 2
def fpT (f n : Int) : ByteArray := ⟨#[1, 0, UInt8.ofNat f.toNat, UInt8.ofNat n.toNat]⟩
theorem numPut1 (n : Int) (w : World) (h0 : 0 ≤ n) (h1 : n ≤ 255) : Calls Tryd.prog 98 #[.int .i64 n, .int .i64 1] w fun e w' => ∃ x : UInt8, Hid (x = UInt8.ofNat n.toNat) ∧ e = .returned (.string ⟨#[x]⟩) ∧ Below w.heap.size w w' :=
  (implNumPut_any n 1 w).mono fun e w' ⟨he, hb⟩ => ⟨UInt8.ofNat n.toNat, rfl, by rw [he, putL_yes (by omega) (by omega) h0 (by show n < (256 : Int); omega)]; simp [pt], hb⟩
theorem l1Put1 (n : Int) (w : World) (h0 : 0 ≤ n) (h1 : n ≤ 255) : Calls Tryd.prog 71 #[.int .i64 n, .int .i64 1] w fun e w' => ∃ x : UInt8, Hid (x = UInt8.ofNat n.toNat) ∧ e = .returned (.string ⟨#[x]⟩) ∧ Below w.heap.size w w' :=
  (l1Put_any n 1 w h0 (by omega) (by omega) (by omega)).mono fun e w' ⟨he, hb⟩ => ⟨UInt8.ofNat n.toNat, rfl, by rw [he]; simp [pt], hb⟩
theorem keep5 {w W W' : World} {v0 v1 v2 v3 v4 : Value} (h : Below w.heap.size w W ∧ W.cell? ⟨w.heap.size, 0, none⟩ = some v0 ∧ W.cell? ⟨w.heap.size, 1, none⟩ = some v1 ∧ W.cell? ⟨w.heap.size, 2, none⟩ = some v2 ∧ W.cell? ⟨w.heap.size, 3, none⟩ = some v3 ∧ W.cell? ⟨w.heap.size, 4, none⟩ = some v4) (hb : Below W.heap.size W W') :
    Below w.heap.size w W' ∧ W'.cell? ⟨w.heap.size, 0, none⟩ = some v0 ∧ W'.cell? ⟨w.heap.size, 1, none⟩ = some v1 ∧ W'.cell? ⟨w.heap.size, 2, none⟩ = some v2 ∧ W'.cell? ⟨w.heap.size, 3, none⟩ = some v3 ∧ W'.cell? ⟨w.heap.size, 4, none⟩ = some v4 := by
  obtain ⟨h, h0, h1, h2, h3, h4⟩ := h
  have hk : w.heap.size < W.heap.size := block_lt_of_cell h0
  exact ⟨h.trans (hb.mono h.size), (hb.cell (p := ⟨w.heap.size, 0, none⟩) hk).trans h0, (hb.cell (p := ⟨w.heap.size, 1, none⟩) hk).trans h1, (hb.cell (p := ⟨w.heap.size, 2, none⟩) hk).trans h2, (hb.cell (p := ⟨w.heap.size, 3, none⟩) hk).trans h3, (hb.cell (p := ⟨w.heap.size, 4, none⟩) hk).trans h4⟩
theorem fp_eq {x t : UInt8} {f f' n : Int} (hx : x = UInt8.ofNat f'.toNat) (ht : t = UInt8.ofNat n.toNat) (h : f' = f) : (⟨#[1, 0]⟩ ++ ⟨#[x]⟩ ++ ⟨#[t]⟩ : ByteArray) = fpT f n := by
  subst hx ht h; rfl
theorem l3Flag_any (b : Bool) (w : World) : Calls Tryd.prog 130 #[.bool b] w fun e w' => e = .returned (.int .i64 (b01 b)) ∧ w' = w := by
  cases b
  all_goals
    go_enter Tryd.func130, Tryd.ntmps130
    go_wp2
    go_ret
    exact ⟨rfl, rfl⟩
theorem l3Flag_if (b : Bool) (w : World) : Calls Tryd.prog 130 #[.bool b] w fun e w' => e = .returned (.int .i64 (if b = true then 1 else 0)) ∧ w' = w := l3Flag_any b w
theorem b01_le (b : Bool) : 0 ≤ b01 b ∧ b01 b ≤ 1 := by cases b <;> simp [b01]
theorem flags_le {s wt ag : Bool} {c : Int} (h0 : 0 ≤ c) (h3 : c ≤ 3) : 0 ≤ flagsOf s wt ag c ∧ flagsOf s wt ag c ≤ 255 := by
  have := b01_le s; have := b01_le wt; have := b01_le ag; unfold flagsOf; omega
theorem keep4 {w W W' : World} {j : Nat} {v : Value} (h : Below w.heap.size w W ∧ W.cell? ⟨w.heap.size, j, none⟩ = some v) (hb : Below W.heap.size W W') : Below w.heap.size w W' ∧ W'.cell? ⟨w.heap.size, j, none⟩ = some v :=
  ⟨h.1.trans (hb.mono h.1.size), (hb.cell (p := ⟨w.heap.size, j, none⟩) (block_lt_of_cell h.2)).trans h.2⟩
set_option maxHeartbeats 1000000 in
theorem implFarmPut_no (s wt ag : Bool) (c n : Int) (w : World) (h : faOk wt ag c n = false) :
    Calls Tryd.prog 51 #[.agg #[.bool s, .bool wt, .bool ag, .int .i64 c, .int .i64 n]] w fun e w' => e = .returned (.string ⟨#[]⟩) ∧ Below w.heap.size w w' := by
  have HB0 : Hid (∀ o, Below w.heap.size w (w.alloc o)) := fun o => (Below.refl _ _).alloc (Nat.le_refl _) o
  go_enter Tryd.func51, Tryd.ntmps51
  go_wp2_with fail
  refine (implFarmOk_any _ _ _ _ _ _).mono ?_
  rintro e w1 ⟨rfl, hb1⟩
  have HB1 : Hid (Below w.heap.size w w1) := (HB0.out _).trans (hb1.mono (by simp))
  clear hb1
  go_wp2_with fail
  go_ret
  exact ⟨rfl, HB1.out⟩
set_option maxHeartbeats 1000000 in
theorem implFarmPut_yes (s wt ag : Bool) (c n : Int) (w : World) (h : faOk wt ag c n = true) (hc0 : 0 ≤ c) (hc3 : c ≤ 3) (hn0 : 0 ≤ n) (hn1 : n ≤ 255) :
    Calls Tryd.prog 51 #[.agg #[.bool s, .bool wt, .bool ag, .int .i64 c, .int .i64 n]] w fun e w' => e = .returned (.string (fpT (flagsOf s wt ag c) n)) ∧ Below w.heap.size w w' := by
  have HB0 : Hid (∀ o, Below w.heap.size w (w.alloc o)) := fun o => (Below.refl _ _).alloc (Nat.le_refl _) o
  cases s <;> cases wt <;> cases ag
  all_goals
    go_enter Tryd.func51, Tryd.ntmps51
    go_wp2_with fail
    refine (implFarmOk_any _ _ _ _ _ _).mono ?_
    rintro e w1 ⟨rfl, hb1⟩
    obtain ⟨hc1, hf1⟩ := bcell0 hb1
    have HB1 : Hid (Below w.heap.size w w1) := (HB0.out _).trans (hb1.mono (by simp))
    have hn : w1.cell? ⟨w.heap.size, 4, none⟩ = some (.int .i64 n) := (hb1.cell (p := ⟨w.heap.size, 4, none⟩) (by simp)).trans (by rw [World.cell?_alloc_mark]; rfl)
    clear hb1
    go_wp2_with fail
    go_region_held2 (fun W => Below w.heap.size w W ∧ W.cell? ⟨w.heap.size, 4, none⟩ = some (.int .i64 n)) (first | assumption | exact ⟨HB1.out, hn⟩ | exact ⟨HB1.out.drew, hn⟩) ((go_at_call 98; refine (numPut1 _ _ (by omega) (by omega)).mono ?_; rintro e w8 ⟨t, HT, rfl, hb8⟩; have HS := keep4 (by assumption) hb8; clear hb8))
    go_wp2_with fail
    go_ret
    rename_i _ x HX _ _
    refine ⟨ret_str (fp_eq HX.out HT.out ?_), And.left (by assumption)⟩
    unfold flagsOf b01; simp <;> omega
set_option maxHeartbeats 1000000 in
theorem specFarmPut_no (s wt ag : Bool) (c n : Int) (w : World) (h : faOk wt ag c n = false) :
    Calls Tryd.prog 101 #[.agg #[.bool s, .bool wt, .bool ag, .int .i64 c, .int .i64 n]] w fun e w' => e = .returned (.string ⟨#[]⟩) ∧ Below w.heap.size w w' := by
  have HB0 : Hid (∀ o, Below w.heap.size w (w.alloc o)) := fun o => (Below.refl _ _).alloc (Nat.le_refl _) o
  go_enter Tryd.func101, Tryd.ntmps101
  go_wp2_with fail
  refine (specFarmOk_any _ _ _ _ _ _).mono ?_
  rintro e w1 ⟨rfl, hb1⟩
  have HB1 : Hid (Below w.heap.size w w1) := (HB0.out _).trans (hb1.mono (by simp))
  clear hb1
  go_wp2_with fail
  go_ret
  exact ⟨rfl, HB1.out⟩
set_option maxHeartbeats 1000000 in
theorem specFarmPut_yes (s wt ag : Bool) (c n : Int) (w : World) (h : faOk wt ag c n = true) (hc0 : 0 ≤ c) (hc3 : c ≤ 3) (hn0 : 0 ≤ n) (hn1 : n ≤ 255) :
    Calls Tryd.prog 101 #[.agg #[.bool s, .bool wt, .bool ag, .int .i64 c, .int .i64 n]] w fun e w' => e = .returned (.string (fpT (flagsOf s wt ag c) n)) ∧ Below w.heap.size w w' := by
  have HB0 : Hid (∀ o, Below w.heap.size w (w.alloc o)) := fun o => (Below.refl _ _).alloc (Nat.le_refl _) o
  go_enter Tryd.func101, Tryd.ntmps101
  go_wp2_with fail
  refine (specFarmOk_any _ _ _ _ _ _).mono ?_
  rintro e w1 ⟨rfl, hb1⟩
  obtain ⟨hc1, hf1⟩ := bcell0 hb1
  have HB1 : Hid (Below w.heap.size w w1) := (HB0.out _).trans (hb1.mono (by simp))
  have hm0 : w1.cell? ⟨w.heap.size, 0, none⟩ = some (.bool s) := (hb1.cell (p := ⟨w.heap.size, 0, none⟩) (by simp)).trans (by rw [World.cell?_alloc_mark]; rfl)
  have hm1 : w1.cell? ⟨w.heap.size, 1, none⟩ = some (.bool wt) := (hb1.cell (p := ⟨w.heap.size, 1, none⟩) (by simp)).trans (by rw [World.cell?_alloc_mark]; rfl)
  have hm2 : w1.cell? ⟨w.heap.size, 2, none⟩ = some (.bool ag) := (hb1.cell (p := ⟨w.heap.size, 2, none⟩) (by simp)).trans (by rw [World.cell?_alloc_mark]; rfl)
  have hm3 : w1.cell? ⟨w.heap.size, 3, none⟩ = some (.int .i64 c) := (hb1.cell (p := ⟨w.heap.size, 3, none⟩) (by simp)).trans (by rw [World.cell?_alloc_mark]; rfl)
  have hm4 : w1.cell? ⟨w.heap.size, 4, none⟩ = some (.int .i64 n) := (hb1.cell (p := ⟨w.heap.size, 4, none⟩) (by simp)).trans (by rw [World.cell?_alloc_mark]; rfl)
  clear hb1 hc1 hf1
  cases s <;> cases wt <;> cases ag
  · go_wp2_with fail
    go_region_held2 (fun W => Below w.heap.size w W ∧ W.cell? ⟨w.heap.size, 0, none⟩ = some (.bool false) ∧ W.cell? ⟨w.heap.size, 1, none⟩ = some (.bool false) ∧ W.cell? ⟨w.heap.size, 2, none⟩ = some (.bool false) ∧ W.cell? ⟨w.heap.size, 3, none⟩ = some (.int .i64 c) ∧ W.cell? ⟨w.heap.size, 4, none⟩ = some (.int .i64 n)) (first | assumption | exact ⟨HB1.out, hm0, hm1, hm2, hm3, hm4⟩ | exact ⟨HB1.out.drew, hm0, hm1, hm2, hm3, hm4⟩) ((first | (go_at_call 130; refine (l3Flag_if _ _).mono ?_; rintro e w8 ⟨rfl, rfl⟩) | (go_at_call 71; (try simp (discharger := omega) only [wrap_id]); refine (l1Put1 _ _ (by omega) (by omega)).mono ?_; rintro e w8 ⟨t, HT, rfl, hb8⟩; have HS := keep5 (by assumption) hb8; clear hb8)))
    go_wp2_with fail
    go_ret
    rename_i _ x HX _ _
    refine ⟨ret_str (fp_eq HX.out HT.out ?_), And.left (by assumption)⟩
    unfold flagsOf b01; simp <;> omega
  · go_wp2_with fail
    go_region_held2 (fun W => Below w.heap.size w W ∧ W.cell? ⟨w.heap.size, 0, none⟩ = some (.bool false) ∧ W.cell? ⟨w.heap.size, 1, none⟩ = some (.bool false) ∧ W.cell? ⟨w.heap.size, 2, none⟩ = some (.bool true) ∧ W.cell? ⟨w.heap.size, 3, none⟩ = some (.int .i64 c) ∧ W.cell? ⟨w.heap.size, 4, none⟩ = some (.int .i64 n)) (first | assumption | exact ⟨HB1.out, hm0, hm1, hm2, hm3, hm4⟩ | exact ⟨HB1.out.drew, hm0, hm1, hm2, hm3, hm4⟩) ((first | (go_at_call 130; refine (l3Flag_if _ _).mono ?_; rintro e w8 ⟨rfl, rfl⟩) | (go_at_call 71; (try simp (discharger := omega) only [wrap_id]); refine (l1Put1 _ _ (by omega) (by omega)).mono ?_; rintro e w8 ⟨t, HT, rfl, hb8⟩; have HS := keep5 (by assumption) hb8; clear hb8)))
    go_wp2_with fail
    go_ret
    rename_i _ x HX _ _
    refine ⟨ret_str (fp_eq HX.out HT.out ?_), And.left (by assumption)⟩
    unfold flagsOf b01; simp <;> omega
  · go_wp2_with fail
    go_region_held2 (fun W => Below w.heap.size w W ∧ W.cell? ⟨w.heap.size, 0, none⟩ = some (.bool false) ∧ W.cell? ⟨w.heap.size, 1, none⟩ = some (.bool true) ∧ W.cell? ⟨w.heap.size, 2, none⟩ = some (.bool false) ∧ W.cell? ⟨w.heap.size, 3, none⟩ = some (.int .i64 c) ∧ W.cell? ⟨w.heap.size, 4, none⟩ = some (.int .i64 n)) (first | assumption | exact ⟨HB1.out, hm0, hm1, hm2, hm3, hm4⟩ | exact ⟨HB1.out.drew, hm0, hm1, hm2, hm3, hm4⟩) ((first | (go_at_call 130; refine (l3Flag_if _ _).mono ?_; rintro e w8 ⟨rfl, rfl⟩) | (go_at_call 71; (try simp (discharger := omega) only [wrap_id]); refine (l1Put1 _ _ (by omega) (by omega)).mono ?_; rintro e w8 ⟨t, HT, rfl, hb8⟩; have HS := keep5 (by assumption) hb8; clear hb8)))
    go_wp2_with fail
    go_ret
    rename_i _ x HX _ _
    refine ⟨ret_str (fp_eq HX.out HT.out ?_), And.left (by assumption)⟩
    unfold flagsOf b01; simp <;> omega
  · go_wp2_with fail
    go_region_held2 (fun W => Below w.heap.size w W ∧ W.cell? ⟨w.heap.size, 0, none⟩ = some (.bool false) ∧ W.cell? ⟨w.heap.size, 1, none⟩ = some (.bool true) ∧ W.cell? ⟨w.heap.size, 2, none⟩ = some (.bool true) ∧ W.cell? ⟨w.heap.size, 3, none⟩ = some (.int .i64 c) ∧ W.cell? ⟨w.heap.size, 4, none⟩ = some (.int .i64 n)) (first | assumption | exact ⟨HB1.out, hm0, hm1, hm2, hm3, hm4⟩ | exact ⟨HB1.out.drew, hm0, hm1, hm2, hm3, hm4⟩) ((first | (go_at_call 130; refine (l3Flag_if _ _).mono ?_; rintro e w8 ⟨rfl, rfl⟩) | (go_at_call 71; (try simp (discharger := omega) only [wrap_id]); refine (l1Put1 _ _ (by omega) (by omega)).mono ?_; rintro e w8 ⟨t, HT, rfl, hb8⟩; have HS := keep5 (by assumption) hb8; clear hb8)))
    go_wp2_with fail
    go_ret
    rename_i _ x HX _ _
    refine ⟨ret_str (fp_eq HX.out HT.out ?_), And.left (by assumption)⟩
    unfold flagsOf b01; simp <;> omega
  · go_wp2_with fail
    go_region_held2 (fun W => Below w.heap.size w W ∧ W.cell? ⟨w.heap.size, 0, none⟩ = some (.bool true) ∧ W.cell? ⟨w.heap.size, 1, none⟩ = some (.bool false) ∧ W.cell? ⟨w.heap.size, 2, none⟩ = some (.bool false) ∧ W.cell? ⟨w.heap.size, 3, none⟩ = some (.int .i64 c) ∧ W.cell? ⟨w.heap.size, 4, none⟩ = some (.int .i64 n)) (first | assumption | exact ⟨HB1.out, hm0, hm1, hm2, hm3, hm4⟩ | exact ⟨HB1.out.drew, hm0, hm1, hm2, hm3, hm4⟩) ((first | (go_at_call 130; refine (l3Flag_if _ _).mono ?_; rintro e w8 ⟨rfl, rfl⟩) | (go_at_call 71; (try simp (discharger := omega) only [wrap_id]); refine (l1Put1 _ _ (by omega) (by omega)).mono ?_; rintro e w8 ⟨t, HT, rfl, hb8⟩; have HS := keep5 (by assumption) hb8; clear hb8)))
    go_wp2_with fail
    go_ret
    rename_i _ x HX _ _
    refine ⟨ret_str (fp_eq HX.out HT.out ?_), And.left (by assumption)⟩
    unfold flagsOf b01; simp <;> omega
  · go_wp2_with fail
    go_region_held2 (fun W => Below w.heap.size w W ∧ W.cell? ⟨w.heap.size, 0, none⟩ = some (.bool true) ∧ W.cell? ⟨w.heap.size, 1, none⟩ = some (.bool false) ∧ W.cell? ⟨w.heap.size, 2, none⟩ = some (.bool true) ∧ W.cell? ⟨w.heap.size, 3, none⟩ = some (.int .i64 c) ∧ W.cell? ⟨w.heap.size, 4, none⟩ = some (.int .i64 n)) (first | assumption | exact ⟨HB1.out, hm0, hm1, hm2, hm3, hm4⟩ | exact ⟨HB1.out.drew, hm0, hm1, hm2, hm3, hm4⟩) ((first | (go_at_call 130; refine (l3Flag_if _ _).mono ?_; rintro e w8 ⟨rfl, rfl⟩) | (go_at_call 71; (try simp (discharger := omega) only [wrap_id]); refine (l1Put1 _ _ (by omega) (by omega)).mono ?_; rintro e w8 ⟨t, HT, rfl, hb8⟩; have HS := keep5 (by assumption) hb8; clear hb8)))
    go_wp2_with fail
    go_ret
    rename_i _ x HX _ _
    refine ⟨ret_str (fp_eq HX.out HT.out ?_), And.left (by assumption)⟩
    unfold flagsOf b01; simp <;> omega
  · go_wp2_with fail
    go_region_held2 (fun W => Below w.heap.size w W ∧ W.cell? ⟨w.heap.size, 0, none⟩ = some (.bool true) ∧ W.cell? ⟨w.heap.size, 1, none⟩ = some (.bool true) ∧ W.cell? ⟨w.heap.size, 2, none⟩ = some (.bool false) ∧ W.cell? ⟨w.heap.size, 3, none⟩ = some (.int .i64 c) ∧ W.cell? ⟨w.heap.size, 4, none⟩ = some (.int .i64 n)) (first | assumption | exact ⟨HB1.out, hm0, hm1, hm2, hm3, hm4⟩ | exact ⟨HB1.out.drew, hm0, hm1, hm2, hm3, hm4⟩) ((first | (go_at_call 130; refine (l3Flag_if _ _).mono ?_; rintro e w8 ⟨rfl, rfl⟩) | (go_at_call 71; (try simp (discharger := omega) only [wrap_id]); refine (l1Put1 _ _ (by omega) (by omega)).mono ?_; rintro e w8 ⟨t, HT, rfl, hb8⟩; have HS := keep5 (by assumption) hb8; clear hb8)))
    go_wp2_with fail
    go_ret
    rename_i _ x HX _ _
    refine ⟨ret_str (fp_eq HX.out HT.out ?_), And.left (by assumption)⟩
    unfold flagsOf b01; simp <;> omega
  · go_wp2_with fail
    go_region_held2 (fun W => Below w.heap.size w W ∧ W.cell? ⟨w.heap.size, 0, none⟩ = some (.bool true) ∧ W.cell? ⟨w.heap.size, 1, none⟩ = some (.bool true) ∧ W.cell? ⟨w.heap.size, 2, none⟩ = some (.bool true) ∧ W.cell? ⟨w.heap.size, 3, none⟩ = some (.int .i64 c) ∧ W.cell? ⟨w.heap.size, 4, none⟩ = some (.int .i64 n)) (first | assumption | exact ⟨HB1.out, hm0, hm1, hm2, hm3, hm4⟩ | exact ⟨HB1.out.drew, hm0, hm1, hm2, hm3, hm4⟩) ((first | (go_at_call 130; refine (l3Flag_if _ _).mono ?_; rintro e w8 ⟨rfl, rfl⟩) | (go_at_call 71; (try simp (discharger := omega) only [wrap_id]); refine (l1Put1 _ _ (by omega) (by omega)).mono ?_; rintro e w8 ⟨t, HT, rfl, hb8⟩; have HS := keep5 (by assumption) hb8; clear hb8)))
    go_wp2_with fail
    go_ret
    rename_i _ x HX _ _
    refine ⟨ret_str (fp_eq HX.out HT.out ?_), And.left (by assumption)⟩
    unfold flagsOf b01; simp <;> omega
def faPut (s wt ag : Bool) (c n : Int) : ByteArray := if faOk wt ag c n = true then fpT (flagsOf s wt ag c) n else ⟨#[]⟩
theorem faOk_bounds {wt ag : Bool} {c n : Int} (h : faOk wt ag c n = true) : 0 ≤ c ∧ c ≤ 3 ∧ 0 ≤ n ∧ n ≤ 255 := by
  simp only [faOk, inB, Bool.and_eq_true, decide_eq_true_eq] at h
  omega
theorem implFarmPut_any (s wt ag : Bool) (c n : Int) (w : World) :
    Calls Tryd.prog 51 #[.agg #[.bool s, .bool wt, .bool ag, .int .i64 c, .int .i64 n]] w fun e w' => e = .returned (.string (faPut s wt ag c n)) ∧ Below w.heap.size w w' := by
  unfold faPut
  cases h : faOk wt ag c n
  · rw [if_neg (by decide)]; exact implFarmPut_no s wt ag c n w h
  · obtain ⟨h0, h1, h2, h3⟩ := faOk_bounds h
    rw [if_pos rfl]; exact implFarmPut_yes s wt ag c n w h h0 h1 h2 h3
theorem specFarmPut_any (s wt ag : Bool) (c n : Int) (w : World) :
    Calls Tryd.prog 101 #[.agg #[.bool s, .bool wt, .bool ag, .int .i64 c, .int .i64 n]] w fun e w' => e = .returned (.string (faPut s wt ag c n)) ∧ Below w.heap.size w w' := by
  unfold faPut
  cases h : faOk wt ag c n
  · rw [if_neg (by decide)]; exact specFarmPut_no s wt ag c n w h
  · obtain ⟨h0, h1, h2, h3⟩ := faOk_bounds h
    rw [if_pos rfl]; exact specFarmPut_yes s wt ag c n w h h0 h1 h2 h3
end Go.Proofs.YtgejiiaocgacmaaDoor
