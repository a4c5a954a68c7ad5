/- spec.SegHear. -/
import Derived.Test.YtgejiiaocgacmaaDoorShS
namespace Go.Proofs.YtgejiiaocgacmaaDoor
open Go.ChangeShapes Go.WideShapes Go.ChangeAt Go.RowKit
set_option linter.unusedVariables false

set_option maxRecDepth 100000 in
set_option maxHeartbeats 1000000 in
theorem specSegHear_any (o : Bool) (d p : ByteArray) (via : Int) (w : World) (hd : d.size ≤ maxLen) (hp : p.size ≤ 1048576) :
    Calls Tryd.prog 15 #[.agg #[.bool o, .string d], .string p, .int .i64 via] w fun e w' => e = .returned (shA (shV o d p via)) ∧ Below w.heap.size w w' := by
  obtain ⟨j, hj⟩ : ∃ j, j = jnOk o d := ⟨_, rfl⟩
  have HL : Hid (∀ W, Calls Tryd.prog 26 #[.agg #[.bool o, .string d]] W fun e w' => e = .returned (.bool j) ∧ Below W.heap.size W w') := fun W => by
    rw [hj]; exact specJoinOk_any o d W hd
  have HB0 : Hid (Below w.heap.size w ((w.alloc (.cells #[.bool o, .string d] 25)).alloc (.cells #[.bool false, .string ⟨#[]⟩] 25))) := ((Below.refl _ _).alloc (Nat.le_refl _) _).alloc (by simp) _
  have HP0 : Hid (((w.alloc (.cells #[.bool o, .string d] 25)).alloc (.cells #[.bool false, .string ⟨#[]⟩] 25)).heap[w.heap.size]? = some (.cells #[.bool o, .string d] 25)) := get_alloc (get_new rfl) (by simp)
  have HR0 : Hid (((w.alloc (.cells #[.bool o, .string d] 25)).alloc (.cells #[.bool false, .string ⟨#[]⟩] 25)).heap[w.heap.size + 1]? = some (.cells #[.bool false, .string ⟨#[]⟩] 25)) := get_new (by simp)
  have hmx : p.size ≤ 9223372036854775807 := by omega
  cases j
  · have HX : Hid (shV o d p via = (false, ⟨#[]⟩, ⟨#[]⟩)) := by show _ = _; unfold shV; rw [← hj]; rfl
    clear hj
    go_enter Tryd.func15, Tryd.ntmps15
    go_wp2_with fail
    refine Calls.mono (HL.out _) ?_
    rintro e w1 ⟨rfl, hb1⟩
    have HB1 : Hid (Below w.heap.size w w1) := HB0.out.trans (hb1.mono HB0.out.size)
    have HP1 : Hid (w1.heap[w.heap.size]? = some (.cells #[.bool o, .string d] 25)) := get_below hb1 HP0.out (size_of_get HP0.out)
    have HR1 : Hid (w1.heap[w.heap.size + 1]? = some (.cells #[.bool false, .string ⟨#[]⟩] 25)) := get_below hb1 HR0.out (size_of_get HR0.out)
    have hz1 : w.heap.size + 1 < w1.heap.size := size_of_get HR1.out
    clear hb1
    obtain ⟨r0, r1⟩ := cells2_of HR1.out
    have fr : ∀ j, w1.frozen? ⟨w.heap.size + 1, j, none⟩ = false := fun j => frozen_get HR1.out
    go_wp2_with fail
    refine bodyPost_ret (v := .tuple #[.agg #[.bool false, .string ⟨#[]⟩], .string ⟨#[]⟩]) (results_row_tmp Tryd.results15 _ _ (w.heap.size + 1) 25 #[.bool false, .string ⟨#[]⟩] (0, 0) _ rfl ?_ Tryd.underlying25 rfl cellsJoin _ rfl) rfl ⟨by rw [HX.out]; rfl, ?_⟩
    · exact get_set (get_set HR1.out rfl) rfl
    · exact belowS (belowS HB1.out (by omega)) (by omega)
  have hd6 : d.size ≤ 106 := jnOk_size hj.symm
  have HJ : Hid (jnOk o d = true) := hj.symm
  clear hj
  by_cases hlen : 2 ≤ p.size ∧ p.size ≤ 21
  · have hi : inB ((p.size : Nat) : Int) 2 21 = true := inB_yes (by omega) (by omega)
    obtain ⟨b0, hb0⟩ : ∃ b, b = byteAt p 0 := ⟨_, rfl⟩
    have hlt : b0 < 256 := by rw [hb0]; exact byteAt_lt p 0
    have hx0 : ∀ h : 0 < p.size, (p[0]'h).toNat = b0 := fun h => by rw [hb0]; exact byteAt_eq p 0 h
    have hpi : (0 : Int) < (p.size : Int) := by omega
    by_cases hv : ((b0 % 64 : Nat) : Int) = via
    · obtain ⟨A, B, C, hR⟩ : ∃ A B C, shR o d (b0 / 64) (p.extract 1 p.size) = (A, B, C) := ⟨_, _, _, rfl⟩
      have hs1 : (p.extract 1 p.size).size ≤ 1048576 := by simp; omega
      have HC : Hid (∀ W, Calls Tryd.prog 56 #[.agg #[.bool o, .string d], .int .i64 ((b0 : Int) / 64), .string (p.extract 1 p.size)] W fun e w' => e = .returned (.tuple #[.agg #[.bool A, .string B], .string C]) ∧ Below W.heap.size W w') := fun W => by
        have := l7Hear_any o d (b0 / 64) (p.extract 1 p.size) W hd6 hs1 (by omega)
        rw [hR] at this
        exact this
      have HX : Hid (shV o d p via = (A, B, C)) := by show _ = _; unfold shV; rw [if_pos HJ.out, ← hb0, if_pos ⟨hlen.1, hlen.2, hv⟩, hR]
      have hv2 : ((b0 : Int) % 64 != via) = false := by simp; omega
      have hp1 : (1 : Int) ≤ (p.size : Int) := by omega
      clear hb0 hR hlen hv
      go_enter Tryd.func15, Tryd.ntmps15
      go_wp2_with fail
      refine Calls.mono (HL.out _) ?_
      rintro e w1 ⟨rfl, hb1⟩
      have HB1 : Hid (Below w.heap.size w w1) := HB0.out.trans (hb1.mono HB0.out.size)
      have HP1 : Hid (w1.heap[w.heap.size]? = some (.cells #[.bool o, .string d] 25)) := get_below hb1 HP0.out (size_of_get HP0.out)
      have HR1 : Hid (w1.heap[w.heap.size + 1]? = some (.cells #[.bool false, .string ⟨#[]⟩] 25)) := get_below hb1 HR0.out (size_of_get HR0.out)
      have hz1 : w.heap.size + 1 < w1.heap.size := size_of_get HR1.out
      clear hb1
      obtain ⟨r0, r1⟩ := cells2_of HR1.out
      have fr : ∀ j, w1.frozen? ⟨w.heap.size + 1, j, none⟩ = false := fun j => frozen_get HR1.out
      obtain ⟨k0, k1⟩ := cells2_of HP1.out
      go_wp2_with (go_at_call 55; refine (l1In_any _ _ _ _).mono ?_; rintro e w1 ⟨rfl, rfl⟩)
      have hw : Hid (IntKind.i64.wrap ((IntKind.i64.wrap (b0 : Int)).tdiv 64) = (b0 : Int) / 64) := by
        show _ = _
        rw [wrapI64 (b0 : Int) (by omega) (by omega), Int.tdiv_eq_ediv_of_nonneg (by omega), wrapI64 _ (by omega) (by omega)]
      have HP1' : Hid (w1.drew.heap[w.heap.size]? = some (.cells #[.bool o, .string d] 25)) := HP1.out
      go_region_with (go_at_call 56; rw [hw.out]; refine Calls.mono (HC.out _) ?_; rintro e w8 ⟨rfl, hb8⟩; have HR8 : Hid (w8.heap[w.heap.size + 1]? = some (.cells #[.bool false, .string ⟨#[]⟩] 25)) := get_below hb8 HR1.out (size_of_get HR1.out); have HB8 : Hid (Below w.heap.size w w8) := HB1.out.trans (Below.trans (Below.drew (Below.refl _ _)) (hb8.mono HB1.out.size)); clear hb8 r0 r1 fr k0 k1; obtain ⟨r0, r1⟩ := cells2_of HR8.out; have fr : ∀ j, w8.frozen? ⟨w.heap.size + 1, j, none⟩ = false := fun j => frozen_get HR8.out)
      all_goals
        go_wp2_with fail
        refine bodyPost_ret (v := .tuple #[.agg #[.bool A, .string B], .string C]) (results_row_tmp Tryd.results15 _ _ (w.heap.size + 1) 25 #[.bool A, .string B] (0, 0) _ rfl ?_ Tryd.underlying25 rfl cellsJoin _ rfl) rfl ⟨by rw [HX.out]; rfl, ?_⟩
        · exact get_set (get_set HR8.out rfl) rfl
        · exact belowS (belowS HB8.out (by omega)) (by omega)
    · have HX : Hid (shV o d p via = (o, d, ⟨#[]⟩)) := by show _ = _; unfold shV; rw [if_pos HJ.out, ← hb0, if_neg (fun h => hv h.2.2)]
      have hv2 : ((b0 : Int) % 64 != via) = true := by simp; omega
      clear hb0 hlen hv
      go_enter Tryd.func15, Tryd.ntmps15
      go_wp2_with fail
      refine Calls.mono (HL.out _) ?_
      rintro e w1 ⟨rfl, hb1⟩
      have HB1 : Hid (Below w.heap.size w w1) := HB0.out.trans (hb1.mono HB0.out.size)
      have HP1 : Hid (w1.heap[w.heap.size]? = some (.cells #[.bool o, .string d] 25)) := get_below hb1 HP0.out (size_of_get HP0.out)
      have HR1 : Hid (w1.heap[w.heap.size + 1]? = some (.cells #[.bool false, .string ⟨#[]⟩] 25)) := get_below hb1 HR0.out (size_of_get HR0.out)
      have hz1 : w.heap.size + 1 < w1.heap.size := size_of_get HR1.out
      clear hb1
      obtain ⟨r0, r1⟩ := cells2_of HR1.out
      have fr : ∀ j, w1.frozen? ⟨w.heap.size + 1, j, none⟩ = false := fun j => frozen_get HR1.out
      obtain ⟨k0, k1⟩ := cells2_of HP1.out
      go_wp2_with (go_at_call 55; refine (l1In_any _ _ _ _).mono ?_; rintro e w1 ⟨rfl, rfl⟩)
      refine bodyPost_ret (v := .tuple #[.agg #[.bool o, .string d], .string ⟨#[]⟩]) (results_row_tmp Tryd.results15 _ _ (w.heap.size + 1) 25 #[.bool o, .string d] (0, 0) _ rfl ?_ Tryd.underlying25 rfl cellsJoin _ rfl) rfl ⟨by rw [HX.out]; rfl, ?_⟩
      · exact get_set (get_set HR1.out rfl) rfl
      · exact belowS (belowS HB1.out (by omega)) (by omega)
  · have HX : Hid (shV o d p via = (o, d, ⟨#[]⟩)) := by show _ = _; unfold shV; rw [if_pos HJ.out, if_neg (fun h => hlen ⟨h.1, h.2.1⟩)]
    have hi : inB ((p.size : Nat) : Int) 2 21 = false := inB_no (by omega)
    clear hlen
    go_enter Tryd.func15, Tryd.ntmps15
    go_wp2_with fail
    refine Calls.mono (HL.out _) ?_
    rintro e w1 ⟨rfl, hb1⟩
    have HB1 : Hid (Below w.heap.size w w1) := HB0.out.trans (hb1.mono HB0.out.size)
    have HP1 : Hid (w1.heap[w.heap.size]? = some (.cells #[.bool o, .string d] 25)) := get_below hb1 HP0.out (size_of_get HP0.out)
    have HR1 : Hid (w1.heap[w.heap.size + 1]? = some (.cells #[.bool false, .string ⟨#[]⟩] 25)) := get_below hb1 HR0.out (size_of_get HR0.out)
    have hz1 : w.heap.size + 1 < w1.heap.size := size_of_get HR1.out
    clear hb1
    obtain ⟨r0, r1⟩ := cells2_of HR1.out
    have fr : ∀ j, w1.frozen? ⟨w.heap.size + 1, j, none⟩ = false := fun j => frozen_get HR1.out
    obtain ⟨k0, k1⟩ := cells2_of HP1.out
    go_wp2_with (go_at_call 55; refine (l1In_any _ _ _ _).mono ?_; rintro e w1 ⟨rfl, rfl⟩)
    refine bodyPost_ret (v := .tuple #[.agg #[.bool o, .string d], .string ⟨#[]⟩]) (results_row_tmp Tryd.results15 _ _ (w.heap.size + 1) 25 #[.bool o, .string d] (0, 0) _ rfl ?_ Tryd.underlying25 rfl cellsJoin _ rfl) rfl ⟨by rw [HX.out]; rfl, ?_⟩
    · exact get_set (get_set HR1.out rfl) rfl
    · exact belowS (belowS HB1.out (by omega)) (by omega)
end Go.Proofs.YtgejiiaocgacmaaDoor
