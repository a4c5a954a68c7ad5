/- The reader past its end. -/
import Derived.Test.YtfienpoebndfpaaDraw
namespace Go.Proofs.Ytfienpoebndfpaa
open Go.ChangeShapes Go.WideShapes Go.ChangeAt Go.RowKit
set_option linter.unusedVariables false
theorem pick_x (z1 z2 p q : Nat) (h1 : z1 < 256) (h2 : z2 < 256) (hp : p ≤ 1073741824) (hq : q ≤ 1073741824) :
    ∃ x : Nat, (z1 : Int) * 131 + (z2 : Int) * 1117 + (p : Int) * 29 + (q : Int) * 53 = (x : Int) ∧ x < 4294967296000 :=
  ⟨z1 * 131 + z2 * 1117 + p * 29 + q * 53, by omega, by omega⟩
theorem pick_y (x : Nat) (h : x < 4294967296000) : ∃ y : Nat, (True → bits .xor .i64 (x : Int) ((x : Int) / 64) = (y : Int)) ∧ y < 4611686018427387904 := by
  refine ⟨x ^^^ x / 64, fun _ => ?_, Nat.xor_lt_two_pow (n := 62) (by omega) (by omega)⟩
  rw [show (x : Int) / 64 = ((x / 64 : Nat) : Int) from by simp]
  exact i64_xor x (x / 64) (by omega) (by omega)
set_option maxHeartbeats 400000 in
theorem pick_past (N n g p len cap b off z1 z2 i1 i2 q : Nat) (w : World) (hN : N ≤ 1073741824) (hn1 : 1 ≤ n) (hn2 : n ≤ 1073741824) (hp : p ≤ N) (hl : len ≤ 2000) (hlen : 0 < len) (hpl : len ≤ p) (hz1 : z1 < 256) (hz2 : z2 < 256) (hbg : b ≠ g)
    (h0 : w.cell? ⟨g, 0, none⟩ = some (.slice (some ⟨b, off, none⟩) len cap)) (h1 : w.cell? ⟨g, 1, none⟩ = some (.int .i64 p)) (hf : w.frozen? ⟨g, 1, none⟩ = false)
    (e1 : Hid ((p : Int) % (len : Int) = (i1 : Int))) (e2 : Hid (((p : Int) * 7 + 3) % (len : Int) = (i2 : Int))) (e3 : Hid ((p : Int) / (len : Int) = (q : Int))) (l1 : i1 < len) (l2 : i2 < len) (l3 : q ≤ p)
    (h2 : w.cell? ⟨b, off + i1, none⟩ = some (.int .u8 (z1 : Int))) (h3 : w.cell? ⟨b, off + i2, none⟩ = some (.int .u8 (z2 : Int))) :
    Calls Try.prog 66 #[.pointer (some ⟨g, 0, none⟩), .int .i64 (n : Nat)] w fun e w' => ∃ v nq : Nat, v < n ∧ e = .returned (.int .i64 (v : Int)) ∧ w' = (w.setCell ⟨g, 1, none⟩ (.int .i64 ((p : Int) + 1))).drewN nq := by
  have hne : ((len : Int) == 0) = false := by rw [beq_eq_false_iff_ne]; omega
  have hq2 : (w.setCell ⟨g, 1, none⟩ (.int .i64 ((p : Int) + 1))).cell? ⟨b, off + i1, none⟩ = some (.int .u8 (z1 : Int)) := by
    rw [World.cell?_setCell_other _ _ _ _ (far hbg)]; exact h2
  have hq3 : (w.setCell ⟨g, 1, none⟩ (.int .i64 ((p : Int) + 1))).cell? ⟨b, off + i2, none⟩ = some (.int .u8 (z2 : Int)) := by
    rw [World.cell?_setCell_other _ _ _ _ (far hbg)]; exact h3
  have hlt : decide ((p : Int) < (len : Int)) = false := by simp; omega
  have hnn : decide ((n : Int) < 1) = false := by simp; omega
  have hb1 : (i1 : Int) < (len : Int) := by omega
  have hb2 : (i2 : Int) < (len : Int) := by omega
  obtain ⟨x, hx0, hxl⟩ := pick_x z1 z2 p q hz1 hz2 (Nat.le_trans hp hN) (Nat.le_trans l3 (Nat.le_trans hp hN))
  have hx : Hid ((z1 : Int) * 131 + (z2 : Int) * 1117 + (p : Int) * 29 + (q : Int) * 53 = (x : Int)) := hx0
  clear hx0
  obtain ⟨y, hy, hyl⟩ : ∃ y : Nat, (True → bits .xor .i64 (x : Int) ((x : Int) / 64) = (y : Int)) ∧ y < 4611686018427387904 := pick_y x hxl
  have HY : Hid (y % n < n) := Nat.mod_lt _ hn1
  go_enter Try.func66, Try.ntmps66
  go_wp2
  have hq0 : (w.setCell ⟨g, 1, none⟩ (.int .i64 ((p : Int) + 1))).cell? ⟨g, 0, none⟩ = some (.slice (some ⟨b, off, none⟩) len cap) := by
    rw [World.cell?_setCell_other _ _ _ _ (by simp)]; exact h0
  generalize hW : w.setCell ⟨g, 1, none⟩ (.int .i64 ((p : Int) + 1)) = W at *
  have HW : Hid (w.setCell ⟨g, 1, none⟩ (.int .i64 ((p : Int) + 1)) = W) := hW
  clear hW h0 h1 h2 h3 hf hlt hnn
  refine wp_region_quiet_lit (by kernel_rfl) (by kernel_rfl) ?_
  iterate 11 (go_big_quiet_step (fail))
  rw [e1.out]
  iterate 17 (go_big_quiet_step (fail))
  rw [e2.out]
  iterate 15 (go_big_quiet_step (fail))
  rw [e3.out, w64 (x := (q : Int)) (by omega) (by omega)]
  iterate 3 (go_big_quiet_step (fail))
  rw [hx.out]
  refine wpQuiet_nil ?_
  intro _ hw'
  obtain ⟨nq, hw''⟩ := hw'
  subst hw''
  go_wp2
  go_ret
  exact ⟨y % n, nq, HY.out, ret_int (by simp), by rw [HW.out]⟩

theorem pick_any (N n g : Nat) (w : World) (hN : N ≤ 1073741824) (hn1 : 1 ≤ n) (hn2 : n ≤ 1073741824) (hr : Rd N w g) :
    Calls Try.prog 66 #[.pointer (some ⟨g, 0, none⟩), .int .i64 (n : Nat)] w fun e w' => ∃ v : Nat, v < n ∧ e = .returned (.int .i64 (v : Int)) ∧ Only g w w' ∧ Rd (N + 1) w' g := by
  obtain ⟨p, av, len, cap, hp, hl, h0, h1, hf, hz⟩ := hr
  rcases Nat.eq_zero_or_pos len with rfl | hlen
  · refine (pick_nil N n g p cap av w hN hn1 hn2 hp h0 h1 hf).mono ?_
    rintro e w' ⟨rfl, rfl⟩
    exact ⟨0, by omega, rfl, (Only.refl _ _).setCell _ _, Rd.step hp hl h0 h1 hf hz 0⟩
  · have hz' := hz
    rcases hz with hz | ⟨b, off, rfl, hbg, hz⟩
    · omega
    by_cases hpl : p < len
    · obtain ⟨z, hz1, hz2⟩ := hz p hpl
      refine (pick_in N n g p len cap b off z w hN hn1 hn2 hp hl hpl hz1 (Nat.ne_of_lt hbg) h0 h1 hf hz2).mono ?_
      rintro e w' ⟨rfl, rfl⟩
      exact ⟨z % n, Nat.mod_lt _ hn1, rfl, (Only.refl _ _).setCell _ _, Rd.step hp hl h0 h1 hf hz' 0⟩
    · obtain ⟨z1, hz1, hc1⟩ := hz (p % len) (Nat.mod_lt _ hlen)
      obtain ⟨z2, hz2, hc2⟩ := hz ((p * 7 + 3) % len) (Nat.mod_lt _ hlen)
      refine (pick_past N n g p len cap b off z1 z2 _ _ (p / len) w hN hn1 hn2 hp hl hlen (by omega) hz1 hz2 (Nat.ne_of_lt hbg) h0 h1 hf (show Hid _ from by unfold Hid; simp) (show Hid _ from by unfold Hid; simp) (show Hid _ from by unfold Hid; simp) (Nat.mod_lt _ hlen) (Nat.mod_lt _ hlen) (Nat.div_le_self _ _) hc1 hc2).mono ?_
      rintro e w' ⟨v, nq, hv, rfl, rfl⟩
      exact ⟨v, hv, rfl, ((Only.refl _ _).setCell _ _).drewN _, Rd.step hp hl h0 h1 hf hz' nq⟩
end Go.Proofs.Ytfienpoebndfpaa
