/- The draw of rules. -/
import Derived.Test.YtfienpoebndfpaaRuR
namespace Go.Proofs.Ytfienpoebndfpaa
open Go.ChangeShapes Go.WideShapes Go.ChangeAt Go.RowKit
set_option linter.unusedVariables false
theorem cellsDru : (Try.prog.info? 60).map (·.size) = some 6 := by kernel_rfl
set_option maxRecDepth 100000 in
set_option maxHeartbeats 1000000 in
theorem l15Rule_any (N g : Nat) (w : World) (hN : N ≤ 400000) (hr : Rd N w g) :
    Calls Try.prog 116 #[.pointer (some ⟨g, 0, none⟩)] w fun e w' => ∃ (v0 v1 v2 v3 : Int) (v4 v5 : Bool), e = .returned (.agg #[.int .i64 v0, .int .i64 v1, .int .i64 v2, .int .i64 v3, .bool v4, .bool v5]) ∧ Only g w w' ∧ Rd (N + 6) w' g := by
  have hg := hr.lt
  have RES : Hid ((w.alloc (.cells #[.int .i64 0, .int .i64 0, .int .i64 0, .int .i64 0, .bool false, .bool false] 60)).heap[w.heap.size]? = some (.cells #[.int .i64 0, .int .i64 0, .int .i64 0, .int .i64 0, .bool false, .bool false] 60)) := get_new rfl
  have HR : Hid (Rd (N + 0) (w.alloc (.cells #[.int .i64 0, .int .i64 0, .int .i64 0, .int .i64 0, .bool false, .bool false] 60)) g) := rdA hr
  have HW : Hid (Only g w (w.alloc (.cells #[.int .i64 0, .int .i64 0, .int .i64 0, .int .i64 0, .bool false, .bool false] 60))) := (Only.refl _ _).alloc _
  clear hr
  go_enter Try.func116, Try.ntmps116
  go_wp2_with fail
  replace RES : Hid (((w.alloc (.cells #[.int .i64 0, .int .i64 0, .int .i64 0, .int .i64 0, .bool false, .bool false] 60)).alloc (.cells #[.int .i64 1, .int .i64 2] 3)).heap[w.heap.size]? = some (.cells #[.int .i64 0, .int .i64 0, .int .i64 0, .int .i64 0, .bool false, .bool false] 60)) := get_allocS RES.out
  replace HW : Hid (Only g w ((w.alloc (.cells #[.int .i64 0, .int .i64 0, .int .i64 0, .int .i64 0, .bool false, .bool false] 60)).alloc (.cells #[.int .i64 1, .int .i64 2] 3))) := HW.out.alloc _
  replace HR : Hid (Rd (N + 0) ((w.alloc (.cells #[.int .i64 0, .int .i64 0, .int .i64 0, .int .i64 0, .bool false, .bool false] 60)).alloc (.cells #[.int .i64 1, .int .i64 2] 3)) g) := rdA HR.out
  refine (one_lit (N + 0) g (w.heap.size + 1) 2 2 [1, 2] _ rfl (by omega) (by omega) (by omega) HR.out (by omega) (intsNew (by simp) _)).mono ?_
  rintro e w1 ⟨y0, hy0, rfl, ho, hr⟩
  replace RES : Hid (w1.heap[w.heap.size]? = some (.cells #[.int .i64 0, .int .i64 0, .int .i64 0, .int .i64 0, .bool false, .bool false] 60)) := get_only ho RES.out (by omega)
  replace HW : Hid (Only g w w1) := HW.out.trans ho
  replace HR : Hid (Rd (N + 1) w1 g) := hr
  clear ho hr
  have hg1 : g < w1.heap.size := HR.out.lt
  replace hy0 : 1 ≤ y0 ∧ y0 ≤ 2 := by simp only [List.mem_cons, List.not_mem_nil, or_false] at hy0; omega
  go_wp2_with fail
  replace RES : Hid ((w1.alloc (.cells #[.int .i64 0, .int .i64 1, .int .i64 7] 3)).heap[w.heap.size]? = some (.cells #[.int .i64 0, .int .i64 0, .int .i64 0, .int .i64 0, .bool false, .bool false] 60)) := get_allocS RES.out
  replace HW : Hid (Only g w (w1.alloc (.cells #[.int .i64 0, .int .i64 1, .int .i64 7] 3))) := HW.out.alloc _
  replace HR : Hid (Rd (N + 1) (w1.alloc (.cells #[.int .i64 0, .int .i64 1, .int .i64 7] 3)) g) := rdA HR.out
  refine (one_lit (N + 1) g w1.heap.size 3 3 [0, 1, 7] _ rfl (by omega) (by omega) (by omega) HR.out (by omega) (intsNew rfl _)).mono ?_
  rintro e w2 ⟨y1, hy1, rfl, ho, hr⟩
  replace RES : Hid (w2.heap[w.heap.size]? = some (.cells #[.int .i64 0, .int .i64 0, .int .i64 0, .int .i64 0, .bool false, .bool false] 60)) := get_only ho RES.out (by omega)
  replace HW : Hid (Only g w w2) := HW.out.trans ho
  replace HR : Hid (Rd (N + 2) w2 g) := hr
  clear ho hr
  have hg2 : g < w2.heap.size := HR.out.lt
  replace hy1 : 0 ≤ y1 ∧ y1 ≤ 7 := by simp only [List.mem_cons, List.not_mem_nil, or_false] at hy1; omega
  go_wp2_with fail
  replace RES : Hid ((w2.alloc (.cells #[.int .i64 8, .int .i64 11, .int .i64 17] 3)).heap[w.heap.size]? = some (.cells #[.int .i64 0, .int .i64 0, .int .i64 0, .int .i64 0, .bool false, .bool false] 60)) := get_allocS RES.out
  replace HW : Hid (Only g w (w2.alloc (.cells #[.int .i64 8, .int .i64 11, .int .i64 17] 3))) := HW.out.alloc _
  replace HR : Hid (Rd (N + 2) (w2.alloc (.cells #[.int .i64 8, .int .i64 11, .int .i64 17] 3)) g) := rdA HR.out
  refine (one_lit (N + 2) g w2.heap.size 3 3 [8, 11, 17] _ rfl (by omega) (by omega) (by omega) HR.out (by omega) (intsNew rfl _)).mono ?_
  rintro e w3 ⟨y2, hy2, rfl, ho, hr⟩
  replace RES : Hid (w3.heap[w.heap.size]? = some (.cells #[.int .i64 0, .int .i64 0, .int .i64 0, .int .i64 0, .bool false, .bool false] 60)) := get_only ho RES.out (by omega)
  replace HW : Hid (Only g w w3) := HW.out.trans ho
  replace HR : Hid (Rd (N + 3) w3 g) := hr
  clear ho hr
  have hg3 : g < w3.heap.size := HR.out.lt
  replace hy2 : 8 ≤ y2 ∧ y2 ≤ 17 := by simp only [List.mem_cons, List.not_mem_nil, or_false] at hy2; omega
  go_wp2_with fail
  refine (pickI (N + 3) g 5 _ (by omega) (by omega) (by omega) HR.out).mono ?_
  rintro e w4 ⟨v3, hv3, rfl, ho, hr⟩
  replace RES : Hid (w4.heap[w.heap.size]? = some (.cells #[.int .i64 0, .int .i64 0, .int .i64 0, .int .i64 0, .bool false, .bool false] 60)) := get_only ho RES.out (by omega)
  replace HW : Hid (Only g w w4) := HW.out.trans ho
  replace HR : Hid (Rd (N + 4) w4 g) := hr
  clear ho hr
  have hg4 : g < w4.heap.size := HR.out.lt
  go_wp2_with fail
  refine (pickI (N + 4) g 3 _ (by omega) (by omega) (by omega) HR.out).mono ?_
  rintro e w5 ⟨v4, hv4, rfl, ho, hr⟩
  replace RES : Hid (w5.heap[w.heap.size]? = some (.cells #[.int .i64 0, .int .i64 0, .int .i64 0, .int .i64 0, .bool false, .bool false] 60)) := get_only ho RES.out (by omega)
  replace HW : Hid (Only g w w5) := HW.out.trans ho
  replace HR : Hid (Rd (N + 5) w5 g) := hr
  clear ho hr
  have hg5 : g < w5.heap.size := HR.out.lt
  go_wp2_with fail
  refine (pickI (N + 5) g 3 _ (by omega) (by omega) (by omega) HR.out).mono ?_
  rintro e w6 ⟨v5, hv5, rfl, ho, hr⟩
  replace RES : Hid (w6.heap[w.heap.size]? = some (.cells #[.int .i64 0, .int .i64 0, .int .i64 0, .int .i64 0, .bool false, .bool false] 60)) := get_only ho RES.out (by omega)
  replace HW : Hid (Only g w w6) := HW.out.trans ho
  replace HR : Hid (Rd (N + 6) w6 g) := hr
  clear ho hr
  have hg6 : g < w6.heap.size := HR.out.lt
  obtain ⟨RES_0, RES_1, RES_2, RES_3, RES_4, RES_5⟩ := cells6_of RES.out
  have RES_f : ∀ j, w6.frozen? ⟨w.heap.size, j, none⟩ = false := fun j => frozen_get RES.out
  go_wp2_with fail
  refine bodyPost_ret (v := .agg #[.int .i64 y0, .int .i64 y1, .int .i64 y2, .int .i64 (1 + (v3 : Int)), .bool (decide (0 < v4)), .bool ((v5 : Int) == 0)]) (results_cell_row Try.results116 _ _ w.heap.size 60 #[.int .i64 y0, .int .i64 y1, .int .i64 y2, .int .i64 (1 + (v3 : Int)), .bool (decide (0 < v4)), .bool ((v5 : Int) == 0)] (0, 0) _ rfl ?_ Try.underlying60 rfl cellsDru) rfl ⟨_, _, _, _, _, _, rfl, ?_, ?_⟩
  · exact get_set (get_set (get_set (get_set (get_set (get_set (RES.out) rfl) rfl) rfl) rfl) rfl) rfl
  · exact onlyS (onlyS (onlyS (onlyS (onlyS (onlyS (HW.out) (Nat.le_refl _)) (Nat.le_refl _)) (Nat.le_refl _)) (Nat.le_refl _)) (Nat.le_refl _)) (Nat.le_refl _)
  · exact rdS (rdS (rdS (rdS (rdS (rdS (HR.out) hg) hg) hg) hg) hg) hg
def lenV : Value → Nat
  | .slice _ n _ => n
  | _ => 0
theorem rd_grownU {N g b : Nat} {wr w' : World} (h : Rd N wr g) (hg : wr.grownBy w' (some b)) (hb : g < b) : Rd N w' g :=
  h.keep (w' := w') fun j hj => hg.block j (by have := h.lt; omega) (fun e => by cases e; omega)
set_option maxRecDepth 100000 in
set_option maxHeartbeats 4000000 in
theorem l15Rules_any (N g : Nat) (w : World) (hN : N ≤ 300000) (hr : Rd N w g) :
    Calls Try.prog 76 #[.pointer (some ⟨g, 0, none⟩)] w fun e w' => ∃ b n cap : Nat, e = .returned (.slice (some ⟨b, 0, none⟩) n cap) ∧ n ≤ 14 ∧ RuR w' w.heap.size b n cap ∧ Only g w w' ∧ Rd (N + 200) w' g := by
  have hg := hr.lt
  have HOwn : Hid (RuR (w.alloc (.cells #[] 60)) w.heap.size w.heap.size 0 0) := RuR.new _ (Nat.le_refl _)
  have HOn : Hid (Only g w (w.alloc (.cells #[] 60))) := (Only.refl _ _).alloc _
  have HRd : Hid (Rd (N + 0) (w.alloc (.cells #[] 60)) g) := rdA hr
  clear hr
  obtain ⟨p, hp⟩ : ∃ p, p = w.heap.size := ⟨_, rfl⟩
  go_enter Try.func76, Try.ntmps76
  go_wp2_with fail
  refine (pickI (N + 0) g _ _ (by omega) (by omega) (by omega) HRd.out).mono ?_
  rintro e wq ⟨v, hv, rfl, hoq, hrq⟩
  have HOwn : Hid (RuR wq w.heap.size w.heap.size 0 0) := HOwn.out.only hoq hg
  have HOn : Hid (Only g w wq) := HOn.out.trans hoq
  have HRd : Hid (Rd (N + 0 + 1) wq g) := hrq
  clear hoq hrq hp p
  go_wp2_with fail
  go_loopw [3, 4] (fun b c wr => ∃ (k m p cap : Nat), k + m ≤ 7 ∧ c = .int .i64 (k : Nat) ∧ b = .slice (some ⟨p, 0, none⟩) m cap ∧ Hid (RuR wr w.heap.size p m cap) ∧ Hid (Only g w wr) ∧ Hid (Rd (N + 1 + 6 * m) wr g)) (fun _ c _ => (intOf c).toNat)
  case atStart => exact ⟨v, 0, _, _, by omega, rfl, rfl, HOwn, HOn, HRd⟩
  case round =>
    clear HOwn HOn HRd
    obtain ⟨k, m, p, cap, hk, rfl, rfl, HOwn, HOn, HRd⟩ := hrel
    by_cases hd : 0 < k
    · have hk1 : (1 : Int) ≤ (k : Int) := by omega
      have KM : Hid (Value.int .i64 ((k : Int) - 1) = .int .i64 ((k - 1 : Nat) : Int)) := by
        show _ = _
        congr 1; omega
      go_wp2_with fail
      refine (l15Rule_any (N + 1 + 6 * m) g _ (by omega) HRd.out).mono ?_
      rintro e w3 ⟨y0, y1, y2, y3, y4, y5, rfl, ho3, hr3⟩
      have HOwn : Hid (RuR w3 w.heap.size p m cap) := HOwn.out.only ho3 hg
      have HOn : Hid (Only g w w3) := HOn.out.trans ho3
      have HRd : Hid (Rd (N + 1 + 6 * m + 6) w3 g) := hr3
      clear ho3 hr3
      obtain ⟨b', cap', w', hrun, hR', hgr⟩ := RuR.append (s := w3.heap.size) (v0 := y0) (v1 := y1) (v2 := y2) (v3 := y3) (v4 := y4) (v5 := y5) (by omega) (HOwn.out.alloc (.cells #[.int .i64 y0, .int .i64 y1, .int .i64 y2, .int .i64 y3, .bool y4, .bool y5] 60)) (get_new rfl)
      have HRUN : Hid _ := hrun
      have HR' : Hid (RuR w' w.heap.size b' (m + 1) cap') := hR'
      have HGr : Hid _ := hgr
      have hpb := HOwn.out.lt
      clear hrun hR' hgr
      go_wp2_with (at_builtin; refine wpList_plain rfl (fun K hK => wp_append (.tmp 12) (.tmp 15) 30 rfl rfl rfl HRUN.out (hK _ _ ?_)))
      exact ⟨⟨k - 1, m + 1, b', cap', by omega, KM.out, rfl, HR', only_grownU (HOn.out.alloc _) HGr.out hpb.1, (rd_grownU (rdA HRd.out) HGr.out (by omega)).mono (by omega)⟩, by simp [intOf]; omega⟩
    · obtain rfl : k = 0 := by omega
      go_wp2_with fail
      refine (pickI (N + 1 + 6 * m) g _ _ (by omega) (by omega) (by omega) HRd.out).mono ?_
      rintro e wq ⟨u, hu, rfl, hoq, hrq⟩
      have HOwn : Hid (RuR wq w.heap.size p m cap) := HOwn.out.only hoq hg
      have HOn : Hid (Only g w wq) := HOn.out.trans hoq
      have HRd : Hid (Rd (N + 1 + 6 * m + 1) wq g) := hrq
      clear hoq hrq
      have hu3 : u = 0 ∨ u = 1 ∨ 2 ≤ u := by omega
      rcases hu3 with rfl | rfl | hu2
      · go_wp2_with fail
        go_loopw [3] (fun b wr => ∃ (m p cap : Nat), m ≤ 13 ∧ b = .slice (some ⟨p, 0, none⟩) m cap ∧ Hid (RuR wr w.heap.size p m cap) ∧ Hid (Only g w wr) ∧ Hid (Rd (N + 2 + 7 * m) wr g)) (fun b _ => 13 - lenV b)
        case atStart => exact ⟨m, p, cap, by omega, rfl, HOwn, HOn, HRd.out.mono (by omega)⟩
        case round =>
          clear HOwn HOn HRd
          obtain ⟨m, p, cap, hm, rfl, HOwn, HOn, HRd⟩ := hrel
          go_wp2_with fail
          refine (pickI (N + 2 + 7 * m) g _ _ (by omega) (by omega) (by omega) HRd.out).mono ?_
          rintro e wq ⟨z, hz, rfl, hoq, hrq⟩
          have HOwn : Hid (RuR wq w.heap.size p m cap) := HOwn.out.only hoq hg
          have HOn : Hid (Only g w wq) := HOn.out.trans hoq
          have HRd : Hid (Rd (N + 2 + 7 * m + 1) wq g) := hrq
          clear hoq hrq
          by_cases hd : (m : Int) < 12 + (z : Int)
          · go_wp2_with fail
            refine (l15Rule_any (N + 2 + 7 * m + 1) g _ (by omega) HRd.out).mono ?_
            rintro e w3 ⟨y0, y1, y2, y3, y4, y5, rfl, ho3, hr3⟩
            have HOwn : Hid (RuR w3 w.heap.size p m cap) := HOwn.out.only ho3 hg
            have HOn : Hid (Only g w w3) := HOn.out.trans ho3
            have HRd : Hid (Rd (N + 2 + 7 * m + 1 + 6) w3 g) := hr3
            clear ho3 hr3
            obtain ⟨b', cap', w', hrun, hR', hgr⟩ := RuR.append (s := w3.heap.size) (v0 := y0) (v1 := y1) (v2 := y2) (v3 := y3) (v4 := y4) (v5 := y5) (by omega) (HOwn.out.alloc (.cells #[.int .i64 y0, .int .i64 y1, .int .i64 y2, .int .i64 y3, .bool y4, .bool y5] 60)) (get_new rfl)
            have HRUN : Hid _ := hrun
            have HR' : Hid (RuR w' w.heap.size b' (m + 1) cap') := hR'
            have HGr : Hid _ := hgr
            have hpb := HOwn.out.lt
            clear hrun hR' hgr
            go_wp2_with (at_builtin; refine wpList_plain rfl (fun K hK => wp_append (.tmp 27) (.tmp 30) 30 rfl rfl rfl HRUN.out (hK _ _ ?_)))
            exact ⟨⟨m + 1, b', cap', by omega, rfl, HR', only_grownU (HOn.out.alloc _) HGr.out hpb.1, (rd_grownU (rdA HRd.out) HGr.out (by omega)).mono (by omega)⟩, by simp [lenV]; omega⟩
          · go_wp2_with fail
            go_ret
            exact ⟨p, m, cap, rfl, by omega, HOwn.out, HOn.out, HRd.out.mono (by omega)⟩
      · have hw3 := hg
        obtain ⟨b', cap', w', hrun, hR', hgr⟩ := RuR.append (s := wq.heap.size) (v0 := 256) (v1 := 0) (v2 := 0) (v3 := 0) (v4 := false) (v5 := false) (by omega) (HOwn.out.alloc (.cells #[.int .i64 256, .int .i64 0, .int .i64 0, .int .i64 0, .bool false, .bool false] 60)) (get_new rfl)
        have HRUN : Hid _ := hrun
        have HR' : Hid (RuR w' w.heap.size b' (m + 1) cap') := hR'
        have HGr : Hid _ := hgr
        have hpb := HOwn.out.lt
        clear hrun hR' hgr
        go_wp2_with (at_builtin; refine wpList_plain rfl (fun K hK => wp_append (.tmp 34) (.tmp 36) 30 rfl rfl rfl HRUN.out (hK _ _ ?_)))
        go_ret
        exact ⟨b', m + 1, cap', rfl, by omega, HR'.out, only_grownU (HOn.out.alloc _) HGr.out hpb.1, (rd_grownU (rdA HRd.out) HGr.out (by omega)).mono (by omega)⟩
      · have hb0 : ((u : Int) == 0) = false := by rw [beq_eq_false_iff_ne]; omega
        have hb1 : ((u : Int) == 1) = false := by rw [beq_eq_false_iff_ne]; omega
        go_wp2_with fail
        go_ret
        exact ⟨p, m, cap, rfl, by omega, HOwn.out, HOn.out, HRd.out.mono (by omega)⟩

end Go.Proofs.Ytfienpoebndfpaa
