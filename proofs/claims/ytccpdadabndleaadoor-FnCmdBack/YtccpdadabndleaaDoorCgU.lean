/- spec.CmdGet where all is well, and in all. -/
import Derived.Test.YtccpdadabndleaaDoorCgS
import Derived.Deep.RegionHeld2
namespace Go.Proofs.YtccpdadabndleaaDoor
open Go.ChangeShapes Go.WideShapes Go.ChangeAt Go.RowKit
set_option linter.unusedVariables false
theorem getD {w : World} {g : Nat} {o : Option Obj} (h : w.heap[g]? = o) : w.drew.heap[g]? = o := h
set_option maxRecDepth 100000 in
set_option maxHeartbeats 4000000 in
theorem specCmdGet_fine (t : ByteArray) (a c : Int) (d : ByteArray) (T : ByteArray) (cr : Nat) (sv sb so : Nat) (x : ByteArray) (w : World) (ht : t.size ≤ 1048576) (HPG : Hid (∀ W, Calls Tryd.prog 15 #[.string t, .int .i64 0] W fun e w' => e = .returned (.tuple #[.agg #[.bool true, .int .i64 a, .int .i64 c, .string d], .int .i64 (t.size : Nat)]) ∧ Below W.heap.size W w')) (hn : 7 ≤ t.size) (hd : 6 ≤ d.size) (hd66 : d.size ≤ 66) (hb0 : byteAt d 0 = 47) (HT : Hid (t.extract 0 (t.size - 2) = T)) (HCR : Hid (∀ W, Calls Tryd.prog 56 #[.string T] W fun e w' => e = .returned (.int .i64 (cr : Nat)) ∧ w' = W)) (HGT : Hid (∀ W, Calls Tryd.prog 51 #[.string t, .int .i64 ((t.size : Int) - 2), .int .i64 2] W fun e w' => e = .returned (.int .i64 (cr : Nat)) ∧ w' = W)) (esv : byteAt d 1 = sv) (esb : byteAt d 2 = sb) (eso : byteAt d 3 = so) (ex : d.extract 4 (d.size - 2) = x) :
    Calls Tryd.prog 18 #[.string t] w fun e w' => e = .returned (.tuple #[.agg #[.int .i64 a, .int .i64 c, .int .i64 (so : Nat), .int .i64 (sv : Nat), .int .i64 (sb : Nat), .string x], .int .i64 0]) ∧ Below w.heap.size w w' := by
  have HG : Hid ((w.alloc (.cells #[.int .i64 0, .int .i64 0, .int .i64 0, .int .i64 0, .int .i64 0, .string ⟨#[]⟩] 29)).heap[w.heap.size]? = some (.cells #[.int .i64 0, .int .i64 0, .int .i64 0, .int .i64 0, .int .i64 0, .string ⟨#[]⟩] 29)) := get_new rfl
  have HB : Hid (Below w.heap.size w (w.alloc (.cells #[.int .i64 0, .int .i64 0, .int .i64 0, .int .i64 0, .int .i64 0, .string ⟨#[]⟩] 29))) := (Below.refl _ _).alloc (Nat.le_refl _) _
  have hte : ¬ t = ByteArray.empty := by intro e; subst e; exact absurd hn (by decide)
  have htb : ((t.size : Int) == 0) = false := by rw [beq_eq_false_iff_ne]; omega
  have hdi : ¬ (d.size : Int) < 2 := by omega
  have hdj : ¬ (d.size : Int) < 6 := by omega
  have hx0 : ∀ h : 0 < d.size, (d[0]'h).toNat = 47 := fun h => by rw [← hb0]; exact byteAt_eq d 0 h
  have hdk : ¬ 60 < (d.size : Int) - 6 := by omega
  have HX : Hid _ := ex
  have hb1 : sv < 256 := esv ▸ byteAt_lt d 1
  have hb2 : sb < 256 := esb ▸ byteAt_lt d 2
  have hb3 : so < 256 := eso ▸ byteAt_lt d 3
  have hx1 : ∀ h : 1 < d.size, (d[1]'h).toNat = sv := fun h => by rw [← esv]; exact byteAt_eq d 1 h
  have hx2 : ∀ h : 2 < d.size, (d[2]'h).toNat = sb := fun h => by rw [← esb]; exact byteAt_eq d 2 h
  have hx3 : ∀ h : 3 < d.size, (d[3]'h).toNat = so := fun h => by rw [← eso]; exact byteAt_eq d 3 h
  clear esv esb eso ex hb0
  go_enter Tryd.func18, Tryd.ntmps18
  go_wp2_with fail
  refine Calls.mono (HPG.out _) ?_
  rintro e w1 ⟨rfl, hb⟩
  have HG1 : Hid (w1.heap[w.heap.size]? = some (.cells #[.int .i64 0, .int .i64 0, .int .i64 0, .int .i64 0, .int .i64 0, .string ⟨#[]⟩] 29)) := get_below hb HG.out (by simp)
  have HK2 : Hid ((w1.alloc (.cells #[.bool true, .int .i64 a, .int .i64 c, .string d] 23)).heap[w1.heap.size]? = some (.cells #[.bool true, .int .i64 a, .int .i64 c, .string d] 23)) := get_new rfl
  obtain ⟨k0, k1, k2, k3⟩ := cells4_of HK2.out
  have HB1 : Hid (Below w.heap.size w w1) := HB.out.trans (hb.mono HB.out.size)
  have hl1 := size_of_get HG1.out
  clear hb HG HB HPG
  obtain ⟨r0, r1, r2, r3, r4, r5⟩ := cells6_of HG1.out
  have fz : ∀ j, w1.frozen? ⟨w.heap.size, j, none⟩ = false := fun j => frozen_get HG1.out
  go_wp2_with fail
  rw [HT.out]
  refine Calls.mono (HCR.out _) ?_
  rintro e w2 ⟨rfl, rfl⟩
  go_wp2_with fail
  refine Calls.mono (HGT.out _) ?_
  rintro e w2 ⟨rfl, rfl⟩
  clear HT HCR HGT
  have HG2 : Hid ((w1.alloc (.cells #[.bool true, .int .i64 a, .int .i64 c, .string d] 23)).heap[w.heap.size]? = some (.cells #[.int .i64 0, .int .i64 0, .int .i64 0, .int .i64 0, .int .i64 0, .string ⟨#[]⟩] 29)) := get_alloc HG1.out hl1
  have HB2 : Hid (Below w.heap.size w (w1.alloc (.cells #[.bool true, .int .i64 a, .int .i64 c, .string d] 23))) := HB1.out.alloc HB1.out.size _
  go_wp2_with fail
  clear k0 k1 k2 k3 r0 r1 r2 r3 r4 r5 fz HG1 HB1 hx0
  generalize (w1.alloc (.cells #[.bool true, .int .i64 a, .int .i64 c, .string d] 23)) = w2 at *
  obtain ⟨k0, k1, k2, k3⟩ := cells4_of HK2.out
  have hl2 := size_of_get HK2.out
  have hlg := size_of_get HG2.out
  have hw1 : IntKind.i64.wrap (sv : Int) = (sv : Int) := wrapI64 _ (by omega) (by omega)
  have hw2 : IntKind.i64.wrap (sb : Int) = (sb : Int) := wrapI64 _ (by omega) (by omega)
  have hw3 : IntKind.i64.wrap (so : Int) = (so : Int) := wrapI64 _ (by omega) (by omega)
  have hws : IntKind.i64.wrap ((d.size : Int) - 2) = (d.size : Int) - 2 := wrapI64 _ (by omega) (by omega)
  have hs1 : (4 : Int) ≤ (d.size : Int) - 2 := by omega
  have hs2 : (d.size : Int) - 2 ≤ (d.size : Int) := by omega
  have hs3 : (0 : Int) ≤ (d.size : Int) - 2 := by omega
  have hi1 : (1 : Int) < (d.size : Int) := by omega
  have hi2 : (2 : Int) < (d.size : Int) := by omega
  have hi3 : (3 : Int) < (d.size : Int) := by omega
  obtain ⟨r0, r1, r2, r3, r4, r5⟩ := cells6_of HG2.out
  have fz : ∀ j, w2.frozen? ⟨w.heap.size, j, none⟩ = false := fun j => frozen_get HG2.out
  have HD : w2.drew.cell? ⟨w1.heap.size, 1, none⟩ = some (.int .i64 a) ∧ w2.drew.cell? ⟨w1.heap.size, 2, none⟩ = some (.int .i64 c) ∧ w2.drew.cell? ⟨w1.heap.size, 3, none⟩ = some (.string d) := ⟨k1, k2, k3⟩
  have KEEP : ∀ W : World, (W.cell? ⟨w1.heap.size, 1, none⟩ = some (.int .i64 a) ∧ W.cell? ⟨w1.heap.size, 2, none⟩ = some (.int .i64 c) ∧ W.cell? ⟨w1.heap.size, 3, none⟩ = some (.string d)) → ∀ (j : Nat) (v : Value), ((W.setCell ⟨w.heap.size, j, none⟩ v).cell? ⟨w1.heap.size, 1, none⟩ = some (.int .i64 a) ∧ (W.setCell ⟨w.heap.size, j, none⟩ v).cell? ⟨w1.heap.size, 2, none⟩ = some (.int .i64 c) ∧ (W.setCell ⟨w.heap.size, j, none⟩ v).cell? ⟨w1.heap.size, 3, none⟩ = some (.string d)) := fun W hW j v => by
    have hne : w.heap.size ≠ w1.heap.size := by omega
    exact ⟨(World.cell?_setCell_far _ _ _ _ hne).trans hW.1, (World.cell?_setCell_far _ _ _ _ hne).trans hW.2.1, (World.cell?_setCell_far _ _ _ _ hne).trans hW.2.2⟩
  have HDR : ∀ W : World, (W.cell? ⟨w1.heap.size, 1, none⟩ = some (.int .i64 a) ∧ W.cell? ⟨w1.heap.size, 2, none⟩ = some (.int .i64 c) ∧ W.cell? ⟨w1.heap.size, 3, none⟩ = some (.string d)) → (W.drew.cell? ⟨w1.heap.size, 1, none⟩ = some (.int .i64 a) ∧ W.drew.cell? ⟨w1.heap.size, 2, none⟩ = some (.int .i64 c) ∧ W.drew.cell? ⟨w1.heap.size, 3, none⟩ = some (.string d)) := fun W h => h
  have KEEP6 : ∀ v0 v1 v2 v3 v4 v5, (fun W : World => W.cell? ⟨w1.heap.size, 1, none⟩ = some (.int .i64 a) ∧ W.cell? ⟨w1.heap.size, 2, none⟩ = some (.int .i64 c) ∧ W.cell? ⟨w1.heap.size, 3, none⟩ = some (.string d)) ((((((w2.setCell ⟨w.heap.size, 0, none⟩ v0).setCell ⟨w.heap.size, 1, none⟩ v1).setCell ⟨w.heap.size, 2, none⟩ v2).setCell ⟨w.heap.size, 3, none⟩ v3).setCell ⟨w.heap.size, 4, none⟩ v4).setCell ⟨w.heap.size, 5, none⟩ v5).drew := fun v0 v1 v2 v3 v4 v5 =>
    HDR _ (KEEP _ (KEEP _ (KEEP _ (KEEP _ (KEEP _ (KEEP _ ⟨k1, k2, k3⟩ 0 v0) 1 v1) 2 v2) 3 v3) 4 v4) 5 v5)
  clear k0 k1 k2 k3 HK2 KEEP HDR
  go_region_held2 (fun W => W.cell? ⟨w1.heap.size, 1, none⟩ = some (.int .i64 a) ∧ W.cell? ⟨w1.heap.size, 2, none⟩ = some (.int .i64 c) ∧ W.cell? ⟨w1.heap.size, 3, none⟩ = some (.string d)) (first | with_reducible assumption | exact KEEP6 _ _ _ _ _ _) (fail)
  all_goals (clear KEEP6 HD)
  all_goals
    have hx4 : ((d.size : Int) - 2).toNat = d.size - 2 := by omega
    rw [hx4, HX.out]
    clear hx4 hx1 hx2 hx3 hb1 hb2 hb3 hws hw1 hw2 hw3 hs1 hs2 hs3 hi1 hi2 hi3 hte htb hdi hdj hdk
    have HGf : Hid (((((((w2.setCell ⟨w.heap.size, 0, none⟩ (.int .i64 a)).setCell ⟨w.heap.size, 1, none⟩ (.int .i64 c)).setCell ⟨w.heap.size, 2, none⟩ (.int .i64 (so : Nat))).setCell ⟨w.heap.size, 3, none⟩ (.int .i64 (sv : Nat))).setCell ⟨w.heap.size, 4, none⟩ (.int .i64 (sb : Nat))).setCell ⟨w.heap.size, 5, none⟩ (.string x)).drew.heap[w.heap.size]? = some (.cells #[.int .i64 a, .int .i64 c, .int .i64 (so : Nat), .int .i64 (sv : Nat), .int .i64 (sb : Nat), .string x] 29)) := getD (get_set (get_set (get_set (get_set (get_set (get_set (HG2.out) rfl) rfl) rfl) rfl) rfl) rfl)
    have HBf : Hid (Below w.heap.size w ((((((w2.setCell ⟨w.heap.size, 0, none⟩ (.int .i64 a)).setCell ⟨w.heap.size, 1, none⟩ (.int .i64 c)).setCell ⟨w.heap.size, 2, none⟩ (.int .i64 (so : Nat))).setCell ⟨w.heap.size, 3, none⟩ (.int .i64 (sv : Nat))).setCell ⟨w.heap.size, 4, none⟩ (.int .i64 (sb : Nat))).setCell ⟨w.heap.size, 5, none⟩ (.string x)).drew) := Below.drew (belowS (belowS (belowS (belowS (belowS (belowS (HB2.out) (by omega)) (by omega)) (by omega)) (by omega)) (by omega)) (by omega))
    clear HG2 HB2 r0 r1 r2 r3 r4 r5 fz hlg
    generalize ((((((w2.setCell ⟨w.heap.size, 0, none⟩ (.int .i64 a)).setCell ⟨w.heap.size, 1, none⟩ (.int .i64 c)).setCell ⟨w.heap.size, 2, none⟩ (.int .i64 (so : Nat))).setCell ⟨w.heap.size, 3, none⟩ (.int .i64 (sv : Nat))).setCell ⟨w.heap.size, 4, none⟩ (.int .i64 (sb : Nat))).setCell ⟨w.heap.size, 5, none⟩ (.string x)).drew = wf at *
    go_wp2_with fail
    exact bodyPost_ret (v := .tuple #[.agg #[.int .i64 a, .int .i64 c, .int .i64 (so : Nat), .int .i64 (sv : Nat), .int .i64 (sb : Nat), .string x], .int .i64 0]) (results_row_tmp Tryd.results18 _ _ (w.heap.size) 29 #[.int .i64 a, .int .i64 c, .int .i64 (so : Nat), .int .i64 (sv : Nat), .int .i64 (sb : Nat), .string x] (0, 0) _ rfl HGf.out Tryd.underlying29 rfl cellsCg _ rfl) rfl ⟨rfl, HBf.out⟩
theorem specCmdGet_any (t : ByteArray) (w : World) (ht : t.size ≤ 1048576) :
    Calls Tryd.prog 18 #[.string t] w fun e w' => e = .returned (.tuple #[cgV t, .int .i64 (cgK t)]) ∧ Below w.heap.size w w' := by
  have hpg := fun W => specPacketGet_any t 0 W ht
  rw [pgAt_zero] at hpg
  cases hp : pgOk t with
  | false =>
    have hs : cgShape t = false := by unfold cgShape; rw [hp]; rfl
    have hk := cgK_1 hs
    rw [cgV_no (by rw [hk]; decide), hk]
    rw [(pgV_no hp).1, (pgV_no hp).2] at hpg
    exact specCmdGet_no t _ _ _ false w ht hpg
  | true =>
    obtain ⟨h1, h2, h3⟩ := pgOk_all hp
    have e1 : pgV t = .agg #[.bool (pgU t), .int .i64 (pgA t), .int .i64 (pgC t), .string (pgD t)] := by unfold pgV; rw [if_pos hp]
    have e2 : pgN t = (pgL t : Nat) := by unfold pgN; rw [if_pos hp]
    rw [e1, e2] at hpg
    by_cases hc : pgL t = t.size
    · rw [hc] at hpg
      cases hu : pgU t with
      | false =>
        have hs : cgShape t = false := by unfold cgShape; rw [hu, Bool.and_false]
        have hk := cgK_1 hs
        rw [cgV_no (by rw [hk]; decide), hk]
        rw [hu] at hpg
        exact specCmdGet_down t _ _ _ w ht hpg h1
      | true =>
        rw [hu] at hpg
        have hs : cgShape t = true := by unfold cgShape; rw [hp, hu, decide_eq_true hc]; rfl
        by_cases hd : (pgD t).size < 2
        · have hk := cgK_2 hs (by unfold cgSum; rw [decide_eq_false (by omega : ¬ 2 ≤ (pgD t).size)]; rfl)
          rw [cgV_no (by rw [hk]; decide), hk]
          exact specCmdGet_few t _ _ _ w ht hpg h1 hd
        · have hd2 : 2 ≤ (pgD t).size := by omega
          have hz := cgT_size (t := t) (by omega)
          have hcr : ∀ W, Calls Tryd.prog 56 #[.string (cgT t)] W fun e w' => e = .returned (.int .i64 (crcTo (cgT t) (cgT t).size : Nat)) ∧ w' = W := fun W => specCrc16_any _ W (by unfold maxLen; omega)
          have hgt : ∀ W, Calls Tryd.prog 51 #[.string t, .int .i64 ((t.size : Int) - 2), .int .i64 2] W fun e w' => e = .returned (.int .i64 (gt t (t.size - 2) 2 : Nat)) ∧ w' = W := fun W => by
            have := l1Get_any t (t.size - 2) 2 W (by unfold maxLen; omega) (by decide) (by omega)
            rw [show ((t.size - 2 : Nat) : Int) = (t.size : Int) - 2 by omega] at this
            exact this
          by_cases hb : gt t (t.size - 2) 2 = crcTo (cgT t) (cgT t).size
          · have hsm : cgSum t = true := by
              simp only [cgSum, cgSumB, Bool.and_eq_true, decide_eq_true_eq]
              exact ⟨hd2, hb⟩
            rw [hb] at hgt
            by_cases h6 : (pgD t).size < 6
            · have hk := cgK_3 hs hsm (by unfold cgHead; rw [decide_eq_false (by omega : ¬ 6 ≤ (pgD t).size)]; rfl)
              rw [cgV_no (by rw [hk]; decide), hk]
              exact specCmdGet_short t _ _ _ _ _ w ht hpg h1 hd2 h6 rfl hcr hgt
            · by_cases hm : byteAt (pgD t) 0 = 47
              · by_cases hl : 66 < (pgD t).size
                · have hk := cgK_3 hs hsm (by unfold cgHead; rw [decide_eq_false (by omega : ¬ (pgD t).size ≤ 66), Bool.and_false])
                  rw [cgV_no (by rw [hk]; decide), hk]
                  exact specCmdGet_long t _ _ _ _ _ w ht hpg h1 hl hm (by omega) rfl hcr hgt
                · have hk := cgK_0 hs hsm (by simp only [cgHead, Bool.and_eq_true, decide_eq_true_eq]; omega)
                  rw [cgV_yes hk, hk]
                  exact specCmdGet_fine t _ _ _ _ _ _ _ _ _ w ht hpg h1 (by omega) (by omega) hm rfl hcr hgt rfl rfl rfl rfl
              · have hk := cgK_3 hs hsm (by unfold cgHead; rw [decide_eq_false hm, Bool.and_false]; rfl)
                rw [cgV_no (by rw [hk]; decide), hk]
                exact specCmdGet_mark t _ _ _ _ _ _ w ht hpg h1 (by omega) rfl (by omega) rfl hcr hgt
          · have hk := cgK_2 hs (by unfold cgSum cgSumB; rw [decide_eq_false hb, Bool.and_false])
            rw [cgV_no (by rw [hk]; decide), hk]
            have hne : ¬ ((crcTo (cgT t) (cgT t).size : Nat) : Int) = ((gt t (t.size - 2) 2 : Nat) : Int) := by omega
            exact specCmdGet_sum t _ _ _ _ _ _ w ht hpg h1 hd2 hne (by rw [bne_iff_ne]; exact hne) rfl hcr hgt
    · have hs : cgShape t = false := by unfold cgShape; rw [decide_eq_false hc, Bool.and_false]; rfl
      have hk := cgK_1 hs
      rw [cgV_no (by rw [hk]; decide), hk]
      exact specCmdGet_len t _ _ _ _ _ w ht hpg (by unfold pgL; omega) hc
end Go.Proofs.YtccpdadabndleaaDoor
