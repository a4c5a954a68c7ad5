/- What a frame down is; downOk, both sides. -/
import Derived.Test.YtccpdadabndleaaDoorFmGD
import Derived.Test.YtccpdadabndleaaDoorCgB
namespace Go.Proofs.YtccpdadabndleaaDoor
open Go.ChangeShapes Go.WideShapes Go.ChangeAt Go.RowKit
set_option linter.unusedVariables false
theorem cells7_of {w : World} {g : Nat} {t : TypeId} {v0 v1 v2 v3 v4 v5 v6 : Value} {fr : Nat × Nat} (h : w.heap[g]? = some (.cells #[v0, v1, v2, v3, v4, v5, v6] t fr)) :
    w.cell? ⟨g, 0, none⟩ = some v0 ∧ w.cell? ⟨g, 1, none⟩ = some v1 ∧ w.cell? ⟨g, 2, none⟩ = some v2 ∧ w.cell? ⟨g, 3, none⟩ = some v3 ∧ w.cell? ⟨g, 4, none⟩ = some v4 ∧ w.cell? ⟨g, 5, none⟩ = some v5 ∧ w.cell? ⟨g, 6, none⟩ = some v6 :=
  ⟨cell_get h rfl, cell_get h rfl, cell_get h rfl, cell_get h rfl, cell_get h rfl, cell_get h rfl, cell_get h rfl⟩
def dnOkB (fo : Bool) (cr wh al ow fi : Int) (d : ByteArray) : Bool := fo && inB cr 0 1023 && inB wh 0 7 && inB al 0 255 && inB ow 0 255 && (inB fi 0 27 || decide (fi = 2047) || decide (fi = 2046)) && decide ((d.size : Int) = 28)
def dnOk (cr wh al ow fi : Int) (d f : ByteArray) : Bool := dnOkB (fatOk f) cr wh al ow fi d
theorem fat_size {f : ByteArray} (h : fatOk f = true) : f.size = 4 := by
  simp only [fatOk, Bool.and_eq_true, decide_eq_true_eq] at h
  exact h.1
theorem dnOk_all {cr wh al ow fi : Int} {d f : ByteArray} (h : dnOk cr wh al ow fi d f = true) : fatOk f = true ∧ f.size = 4 ∧ 0 ≤ cr ∧ cr ≤ 1023 ∧ 0 ≤ wh ∧ wh ≤ 7 ∧ 0 ≤ al ∧ al ≤ 255 ∧ 0 ≤ ow ∧ ow ≤ 255 ∧ 0 ≤ fi ∧ fi ≤ 2047 ∧ d.size = 28 := by
  simp only [dnOk, dnOkB, inB, Bool.and_eq_true, Bool.or_eq_true, decide_eq_true_eq] at h
  have h0 := h.1.1.1.1.1.1
  have hz := fat_size h0
  refine ⟨h0, hz, ?_⟩
  omega
set_option maxRecDepth 100000 in
set_option maxHeartbeats 4000000 in
theorem implDnOk_any (cr wh al ow fi : Int) (d f : ByteArray) (w : World) (hd : d.size ≤ maxLen) (hf : f.size ≤ maxLen) (he : Errs w) :
    Calls Tryd.prog 89 #[.agg #[.int .i64 cr, .int .i64 wh, .int .i64 al, .int .i64 ow, .int .i64 fi, .string d, .string f]] w fun e w' => e = .returned (.bool (dnOk cr wh al ow fi d f)) ∧ Below w.heap.size w w' := by
  have hm := hd
  unfold maxLen at hm
  obtain ⟨s0, s1, s2, s3, s4, hv⟩ := fatV_agg f
  unfold dnOk
  generalize hfo : fatOk f = fo
  have HF : Hid (∀ W, Errs W → Calls Tryd.prog 112 #[.string f] W fun e w' => e = .returned (.tuple #[.agg #[.bool s0, .bool s1, .bool s2, .int .i64 s3, .int .i64 s4], .bool fo]) ∧ Below W.heap.size W w') := fun W he => by
    have := implFarmGet_any f W hf he
    rw [hv, hfo] at this; exact this
  have HE : Hid (Errs (w.alloc (.cells #[.int .i64 cr, .int .i64 wh, .int .i64 al, .int .i64 ow, .int .i64 fi, .string d, .string f] 54))) := he.below ((Below.refl _ _).alloc (Nat.le_refl _) _)
  clear he
  clear hv hfo hf
  cases fo with
  | false =>
    go_enter Tryd.func89, Tryd.ntmps89
    go_wp2_with fail
    refine Calls.mono (HF.out _ HE.out) ?_
    rintro e w1 ⟨rfl, hb⟩
    have hK : w1.heap[w.heap.size]? = some (.cells #[.int .i64 cr, .int .i64 wh, .int .i64 al, .int .i64 ow, .int .i64 fi, .string d, .string f] 54) := get_below hb (get_new rfl) (by simp)
    have HB : Hid (Below w.heap.size w w1) := ((Below.refl _ _).alloc (Nat.le_refl _) _).trans (hb.mono (by simp))
    have hK2 : (w1.alloc (.cells #[.bool s0, .bool s1, .bool s2, .int .i64 s3, .int .i64 s4] 144)).heap[w.heap.size]? = some (.cells #[.int .i64 cr, .int .i64 wh, .int .i64 al, .int .i64 ow, .int .i64 fi, .string d, .string f] 54) := get_allocS hK
    obtain ⟨k0, k1, k2, k3, k4, k5, k6⟩ := cells7_of hK2
    clear hb hK hK2
    go_wp2_with (go_at_call 52; refine (upTo_any _ _ _).mono ?_; rintro e w' ⟨rfl, rfl⟩)
    go_ret
    exact ⟨by simp [dnOkB], HB.out.alloc HB.out.size _⟩
  | true =>
    cases h1 : inB cr 0 1023 with
    | false =>
      go_enter Tryd.func89, Tryd.ntmps89
      go_wp2_with fail
      refine Calls.mono (HF.out _ HE.out) ?_
      rintro e w1 ⟨rfl, hb⟩
      have hK : w1.heap[w.heap.size]? = some (.cells #[.int .i64 cr, .int .i64 wh, .int .i64 al, .int .i64 ow, .int .i64 fi, .string d, .string f] 54) := get_below hb (get_new rfl) (by simp)
      have HB : Hid (Below w.heap.size w w1) := ((Below.refl _ _).alloc (Nat.le_refl _) _).trans (hb.mono (by simp))
      have hK2 : (w1.alloc (.cells #[.bool s0, .bool s1, .bool s2, .int .i64 s3, .int .i64 s4] 144)).heap[w.heap.size]? = some (.cells #[.int .i64 cr, .int .i64 wh, .int .i64 al, .int .i64 ow, .int .i64 fi, .string d, .string f] 54) := get_allocS hK
      obtain ⟨k0, k1, k2, k3, k4, k5, k6⟩ := cells7_of hK2
      clear hb hK hK2
      go_wp2_with (go_at_call 52; refine (upTo_any _ _ _).mono ?_; rintro e w' ⟨rfl, rfl⟩)
      go_ret
      exact ⟨by simp [dnOkB, h1], HB.out.alloc HB.out.size _⟩
    | true =>
      cases h2 : inB wh 0 7 with
      | false =>
        go_enter Tryd.func89, Tryd.ntmps89
        go_wp2_with fail
        refine Calls.mono (HF.out _ HE.out) ?_
        rintro e w1 ⟨rfl, hb⟩
        have hK : w1.heap[w.heap.size]? = some (.cells #[.int .i64 cr, .int .i64 wh, .int .i64 al, .int .i64 ow, .int .i64 fi, .string d, .string f] 54) := get_below hb (get_new rfl) (by simp)
        have HB : Hid (Below w.heap.size w w1) := ((Below.refl _ _).alloc (Nat.le_refl _) _).trans (hb.mono (by simp))
        have hK2 : (w1.alloc (.cells #[.bool s0, .bool s1, .bool s2, .int .i64 s3, .int .i64 s4] 144)).heap[w.heap.size]? = some (.cells #[.int .i64 cr, .int .i64 wh, .int .i64 al, .int .i64 ow, .int .i64 fi, .string d, .string f] 54) := get_allocS hK
        obtain ⟨k0, k1, k2, k3, k4, k5, k6⟩ := cells7_of hK2
        clear hb hK hK2
        go_wp2_with (go_at_call 52; refine (upTo_any _ _ _).mono ?_; rintro e w' ⟨rfl, rfl⟩)
        go_ret
        exact ⟨by simp [dnOkB, h1, h2], HB.out.alloc HB.out.size _⟩
      | true =>
        cases h3 : inB al 0 255 with
        | false =>
          go_enter Tryd.func89, Tryd.ntmps89
          go_wp2_with fail
          refine Calls.mono (HF.out _ HE.out) ?_
          rintro e w1 ⟨rfl, hb⟩
          have hK : w1.heap[w.heap.size]? = some (.cells #[.int .i64 cr, .int .i64 wh, .int .i64 al, .int .i64 ow, .int .i64 fi, .string d, .string f] 54) := get_below hb (get_new rfl) (by simp)
          have HB : Hid (Below w.heap.size w w1) := ((Below.refl _ _).alloc (Nat.le_refl _) _).trans (hb.mono (by simp))
          have hK2 : (w1.alloc (.cells #[.bool s0, .bool s1, .bool s2, .int .i64 s3, .int .i64 s4] 144)).heap[w.heap.size]? = some (.cells #[.int .i64 cr, .int .i64 wh, .int .i64 al, .int .i64 ow, .int .i64 fi, .string d, .string f] 54) := get_allocS hK
          obtain ⟨k0, k1, k2, k3, k4, k5, k6⟩ := cells7_of hK2
          clear hb hK hK2
          go_wp2_with (go_at_call 52; refine (upTo_any _ _ _).mono ?_; rintro e w' ⟨rfl, rfl⟩)
          go_ret
          exact ⟨by simp [dnOkB, h1, h2, h3], HB.out.alloc HB.out.size _⟩
        | true =>
          cases h4 : inB ow 0 255 with
          | false =>
            go_enter Tryd.func89, Tryd.ntmps89
            go_wp2_with fail
            refine Calls.mono (HF.out _ HE.out) ?_
            rintro e w1 ⟨rfl, hb⟩
            have hK : w1.heap[w.heap.size]? = some (.cells #[.int .i64 cr, .int .i64 wh, .int .i64 al, .int .i64 ow, .int .i64 fi, .string d, .string f] 54) := get_below hb (get_new rfl) (by simp)
            have HB : Hid (Below w.heap.size w w1) := ((Below.refl _ _).alloc (Nat.le_refl _) _).trans (hb.mono (by simp))
            have hK2 : (w1.alloc (.cells #[.bool s0, .bool s1, .bool s2, .int .i64 s3, .int .i64 s4] 144)).heap[w.heap.size]? = some (.cells #[.int .i64 cr, .int .i64 wh, .int .i64 al, .int .i64 ow, .int .i64 fi, .string d, .string f] 54) := get_allocS hK
            obtain ⟨k0, k1, k2, k3, k4, k5, k6⟩ := cells7_of hK2
            clear hb hK hK2
            go_wp2_with (go_at_call 52; refine (upTo_any _ _ _).mono ?_; rintro e w' ⟨rfl, rfl⟩)
            go_ret
            exact ⟨by simp [dnOkB, h1, h2, h3, h4], HB.out.alloc HB.out.size _⟩
          | true =>
            cases h5 : inB fi 0 27 with
            | true =>
              by_cases hz : (d.size : Int) = 28
              · have hzb : ((d.size : Int) == 28) = true := by rw [beq_iff_eq]; exact hz
                go_enter Tryd.func89, Tryd.ntmps89
                go_wp2_with fail
                refine Calls.mono (HF.out _ HE.out) ?_
                rintro e w1 ⟨rfl, hb⟩
                have hK : w1.heap[w.heap.size]? = some (.cells #[.int .i64 cr, .int .i64 wh, .int .i64 al, .int .i64 ow, .int .i64 fi, .string d, .string f] 54) := get_below hb (get_new rfl) (by simp)
                have HB : Hid (Below w.heap.size w w1) := ((Below.refl _ _).alloc (Nat.le_refl _) _).trans (hb.mono (by simp))
                have hK2 : (w1.alloc (.cells #[.bool s0, .bool s1, .bool s2, .int .i64 s3, .int .i64 s4] 144)).heap[w.heap.size]? = some (.cells #[.int .i64 cr, .int .i64 wh, .int .i64 al, .int .i64 ow, .int .i64 fi, .string d, .string f] 54) := get_allocS hK
                obtain ⟨k0, k1, k2, k3, k4, k5, k6⟩ := cells7_of hK2
                clear hb hK hK2
                go_wp2_with (go_at_call 52; refine (upTo_any _ _ _).mono ?_; rintro e w' ⟨rfl, rfl⟩)
                go_ret
                exact ⟨by simp [dnOkB, h1, h2, h3, h4, h5, hz], HB.out.alloc HB.out.size _⟩
              · have hzb : ((d.size : Int) == 28) = false := by rw [beq_eq_false_iff_ne]; exact hz
                go_enter Tryd.func89, Tryd.ntmps89
                go_wp2_with fail
                refine Calls.mono (HF.out _ HE.out) ?_
                rintro e w1 ⟨rfl, hb⟩
                have hK : w1.heap[w.heap.size]? = some (.cells #[.int .i64 cr, .int .i64 wh, .int .i64 al, .int .i64 ow, .int .i64 fi, .string d, .string f] 54) := get_below hb (get_new rfl) (by simp)
                have HB : Hid (Below w.heap.size w w1) := ((Below.refl _ _).alloc (Nat.le_refl _) _).trans (hb.mono (by simp))
                have hK2 : (w1.alloc (.cells #[.bool s0, .bool s1, .bool s2, .int .i64 s3, .int .i64 s4] 144)).heap[w.heap.size]? = some (.cells #[.int .i64 cr, .int .i64 wh, .int .i64 al, .int .i64 ow, .int .i64 fi, .string d, .string f] 54) := get_allocS hK
                obtain ⟨k0, k1, k2, k3, k4, k5, k6⟩ := cells7_of hK2
                clear hb hK hK2
                go_wp2_with (go_at_call 52; refine (upTo_any _ _ _).mono ?_; rintro e w' ⟨rfl, rfl⟩)
                go_ret
                exact ⟨by simp [dnOkB, h1, h2, h3, h4, h5, hz], HB.out.alloc HB.out.size _⟩
            | false =>
              by_cases h6 : fi = 2047
              · subst h6
                by_cases hz : (d.size : Int) = 28
                · have hzb : ((d.size : Int) == 28) = true := by rw [beq_iff_eq]; exact hz
                  go_enter Tryd.func89, Tryd.ntmps89
                  go_wp2_with fail
                  refine Calls.mono (HF.out _ HE.out) ?_
                  rintro e w1 ⟨rfl, hb⟩
                  have hK : w1.heap[w.heap.size]? = some (.cells #[.int .i64 cr, .int .i64 wh, .int .i64 al, .int .i64 ow, .int .i64 2047, .string d, .string f] 54) := get_below hb (get_new rfl) (by simp)
                  have HB : Hid (Below w.heap.size w w1) := ((Below.refl _ _).alloc (Nat.le_refl _) _).trans (hb.mono (by simp))
                  have hK2 : (w1.alloc (.cells #[.bool s0, .bool s1, .bool s2, .int .i64 s3, .int .i64 s4] 144)).heap[w.heap.size]? = some (.cells #[.int .i64 cr, .int .i64 wh, .int .i64 al, .int .i64 ow, .int .i64 2047, .string d, .string f] 54) := get_allocS hK
                  obtain ⟨k0, k1, k2, k3, k4, k5, k6⟩ := cells7_of hK2
                  clear hb hK hK2
                  go_wp2_with (go_at_call 52; refine (upTo_any _ _ _).mono ?_; rintro e w' ⟨rfl, rfl⟩)
                  go_ret
                  exact ⟨by simp [dnOkB, h1, h2, h3, h4, h5, hz], HB.out.alloc HB.out.size _⟩
                · have hzb : ((d.size : Int) == 28) = false := by rw [beq_eq_false_iff_ne]; exact hz
                  go_enter Tryd.func89, Tryd.ntmps89
                  go_wp2_with fail
                  refine Calls.mono (HF.out _ HE.out) ?_
                  rintro e w1 ⟨rfl, hb⟩
                  have hK : w1.heap[w.heap.size]? = some (.cells #[.int .i64 cr, .int .i64 wh, .int .i64 al, .int .i64 ow, .int .i64 2047, .string d, .string f] 54) := get_below hb (get_new rfl) (by simp)
                  have HB : Hid (Below w.heap.size w w1) := ((Below.refl _ _).alloc (Nat.le_refl _) _).trans (hb.mono (by simp))
                  have hK2 : (w1.alloc (.cells #[.bool s0, .bool s1, .bool s2, .int .i64 s3, .int .i64 s4] 144)).heap[w.heap.size]? = some (.cells #[.int .i64 cr, .int .i64 wh, .int .i64 al, .int .i64 ow, .int .i64 2047, .string d, .string f] 54) := get_allocS hK
                  obtain ⟨k0, k1, k2, k3, k4, k5, k6⟩ := cells7_of hK2
                  clear hb hK hK2
                  go_wp2_with (go_at_call 52; refine (upTo_any _ _ _).mono ?_; rintro e w' ⟨rfl, rfl⟩)
                  go_ret
                  exact ⟨by simp [dnOkB, h1, h2, h3, h4, h5, hz], HB.out.alloc HB.out.size _⟩
              · have h6b : (fi == 2047) = false := by rw [beq_eq_false_iff_ne]; exact h6
                by_cases h7 : fi = 2046
                · subst h7
                  by_cases hz : (d.size : Int) = 28
                  · have hzb : ((d.size : Int) == 28) = true := by rw [beq_iff_eq]; exact hz
                    go_enter Tryd.func89, Tryd.ntmps89
                    go_wp2_with fail
                    refine Calls.mono (HF.out _ HE.out) ?_
                    rintro e w1 ⟨rfl, hb⟩
                    have hK : w1.heap[w.heap.size]? = some (.cells #[.int .i64 cr, .int .i64 wh, .int .i64 al, .int .i64 ow, .int .i64 2046, .string d, .string f] 54) := get_below hb (get_new rfl) (by simp)
                    have HB : Hid (Below w.heap.size w w1) := ((Below.refl _ _).alloc (Nat.le_refl _) _).trans (hb.mono (by simp))
                    have hK2 : (w1.alloc (.cells #[.bool s0, .bool s1, .bool s2, .int .i64 s3, .int .i64 s4] 144)).heap[w.heap.size]? = some (.cells #[.int .i64 cr, .int .i64 wh, .int .i64 al, .int .i64 ow, .int .i64 2046, .string d, .string f] 54) := get_allocS hK
                    obtain ⟨k0, k1, k2, k3, k4, k5, k6⟩ := cells7_of hK2
                    clear hb hK hK2
                    go_wp2_with (go_at_call 52; refine (upTo_any _ _ _).mono ?_; rintro e w' ⟨rfl, rfl⟩)
                    go_ret
                    exact ⟨by simp [dnOkB, h1, h2, h3, h4, h5, hz], HB.out.alloc HB.out.size _⟩
                  · have hzb : ((d.size : Int) == 28) = false := by rw [beq_eq_false_iff_ne]; exact hz
                    go_enter Tryd.func89, Tryd.ntmps89
                    go_wp2_with fail
                    refine Calls.mono (HF.out _ HE.out) ?_
                    rintro e w1 ⟨rfl, hb⟩
                    have hK : w1.heap[w.heap.size]? = some (.cells #[.int .i64 cr, .int .i64 wh, .int .i64 al, .int .i64 ow, .int .i64 2046, .string d, .string f] 54) := get_below hb (get_new rfl) (by simp)
                    have HB : Hid (Below w.heap.size w w1) := ((Below.refl _ _).alloc (Nat.le_refl _) _).trans (hb.mono (by simp))
                    have hK2 : (w1.alloc (.cells #[.bool s0, .bool s1, .bool s2, .int .i64 s3, .int .i64 s4] 144)).heap[w.heap.size]? = some (.cells #[.int .i64 cr, .int .i64 wh, .int .i64 al, .int .i64 ow, .int .i64 2046, .string d, .string f] 54) := get_allocS hK
                    obtain ⟨k0, k1, k2, k3, k4, k5, k6⟩ := cells7_of hK2
                    clear hb hK hK2
                    go_wp2_with (go_at_call 52; refine (upTo_any _ _ _).mono ?_; rintro e w' ⟨rfl, rfl⟩)
                    go_ret
                    exact ⟨by simp [dnOkB, h1, h2, h3, h4, h5, hz], HB.out.alloc HB.out.size _⟩
                · have h7b : (fi == 2046) = false := by rw [beq_eq_false_iff_ne]; exact h7
                  go_enter Tryd.func89, Tryd.ntmps89
                  go_wp2_with fail
                  refine Calls.mono (HF.out _ HE.out) ?_
                  rintro e w1 ⟨rfl, hb⟩
                  have hK : w1.heap[w.heap.size]? = some (.cells #[.int .i64 cr, .int .i64 wh, .int .i64 al, .int .i64 ow, .int .i64 fi, .string d, .string f] 54) := get_below hb (get_new rfl) (by simp)
                  have HB : Hid (Below w.heap.size w w1) := ((Below.refl _ _).alloc (Nat.le_refl _) _).trans (hb.mono (by simp))
                  have hK2 : (w1.alloc (.cells #[.bool s0, .bool s1, .bool s2, .int .i64 s3, .int .i64 s4] 144)).heap[w.heap.size]? = some (.cells #[.int .i64 cr, .int .i64 wh, .int .i64 al, .int .i64 ow, .int .i64 fi, .string d, .string f] 54) := get_allocS hK
                  obtain ⟨k0, k1, k2, k3, k4, k5, k6⟩ := cells7_of hK2
                  clear hb hK hK2
                  go_wp2_with (go_at_call 52; refine (upTo_any _ _ _).mono ?_; rintro e w' ⟨rfl, rfl⟩)
                  go_ret
                  exact ⟨by simp [dnOkB, h1, h2, h3, h4, h5, h6, h7], HB.out.alloc HB.out.size _⟩
set_option maxRecDepth 100000 in
set_option maxHeartbeats 4000000 in
theorem specDnOk_any (cr wh al ow fi : Int) (d f : ByteArray) (w : World) (hd : d.size ≤ maxLen) (hf : f.size ≤ maxLen) :
    Calls Tryd.prog 87 #[.agg #[.int .i64 cr, .int .i64 wh, .int .i64 al, .int .i64 ow, .int .i64 fi, .string d, .string f]] w fun e w' => e = .returned (.bool (dnOk cr wh al ow fi d f)) ∧ Below w.heap.size w w' := by
  have hm := hd
  unfold maxLen at hm
  obtain ⟨s0, s1, s2, s3, s4, hv⟩ := fatV_agg f
  unfold dnOk
  generalize hfo : fatOk f = fo
  have HF : Hid (∀ W, Calls Tryd.prog 111 #[.string f] W fun e w' => e = .returned (.tuple #[.agg #[.bool s0, .bool s1, .bool s2, .int .i64 s3, .int .i64 s4], .bool fo]) ∧ Below W.heap.size W w') := fun W => by
    have := specFarmGet_any f W hf
    rw [hv, hfo] at this; exact this
  clear hv hfo hf
  cases fo with
  | false =>
    go_enter Tryd.func87, Tryd.ntmps87
    go_wp2_with fail
    refine Calls.mono (HF.out _) ?_
    rintro e w1 ⟨rfl, hb⟩
    have hK : w1.heap[w.heap.size]? = some (.cells #[.int .i64 cr, .int .i64 wh, .int .i64 al, .int .i64 ow, .int .i64 fi, .string d, .string f] 54) := get_below hb (get_new rfl) (by simp)
    have HB : Hid (Below w.heap.size w w1) := ((Below.refl _ _).alloc (Nat.le_refl _) _).trans (hb.mono (by simp))
    have hK2 : (w1.alloc (.cells #[.bool s0, .bool s1, .bool s2, .int .i64 s3, .int .i64 s4] 144)).heap[w.heap.size]? = some (.cells #[.int .i64 cr, .int .i64 wh, .int .i64 al, .int .i64 ow, .int .i64 fi, .string d, .string f] 54) := get_allocS hK
    obtain ⟨k0, k1, k2, k3, k4, k5, k6⟩ := cells7_of hK2
    clear hb hK hK2
    go_wp2_with (go_at_call 50; refine (l1In_any _ _ _ _).mono ?_; rintro e w' ⟨rfl, rfl⟩)
    go_ret
    exact ⟨by simp [dnOkB], HB.out.alloc HB.out.size _⟩
  | true =>
    cases h1 : inB cr 0 1023 with
    | false =>
      go_enter Tryd.func87, Tryd.ntmps87
      go_wp2_with fail
      refine Calls.mono (HF.out _) ?_
      rintro e w1 ⟨rfl, hb⟩
      have hK : w1.heap[w.heap.size]? = some (.cells #[.int .i64 cr, .int .i64 wh, .int .i64 al, .int .i64 ow, .int .i64 fi, .string d, .string f] 54) := get_below hb (get_new rfl) (by simp)
      have HB : Hid (Below w.heap.size w w1) := ((Below.refl _ _).alloc (Nat.le_refl _) _).trans (hb.mono (by simp))
      have hK2 : (w1.alloc (.cells #[.bool s0, .bool s1, .bool s2, .int .i64 s3, .int .i64 s4] 144)).heap[w.heap.size]? = some (.cells #[.int .i64 cr, .int .i64 wh, .int .i64 al, .int .i64 ow, .int .i64 fi, .string d, .string f] 54) := get_allocS hK
      obtain ⟨k0, k1, k2, k3, k4, k5, k6⟩ := cells7_of hK2
      clear hb hK hK2
      go_wp2_with (go_at_call 50; refine (l1In_any _ _ _ _).mono ?_; rintro e w' ⟨rfl, rfl⟩)
      go_ret
      exact ⟨by simp [dnOkB, h1], HB.out.alloc HB.out.size _⟩
    | true =>
      cases h2 : inB wh 0 7 with
      | false =>
        go_enter Tryd.func87, Tryd.ntmps87
        go_wp2_with fail
        refine Calls.mono (HF.out _) ?_
        rintro e w1 ⟨rfl, hb⟩
        have hK : w1.heap[w.heap.size]? = some (.cells #[.int .i64 cr, .int .i64 wh, .int .i64 al, .int .i64 ow, .int .i64 fi, .string d, .string f] 54) := get_below hb (get_new rfl) (by simp)
        have HB : Hid (Below w.heap.size w w1) := ((Below.refl _ _).alloc (Nat.le_refl _) _).trans (hb.mono (by simp))
        have hK2 : (w1.alloc (.cells #[.bool s0, .bool s1, .bool s2, .int .i64 s3, .int .i64 s4] 144)).heap[w.heap.size]? = some (.cells #[.int .i64 cr, .int .i64 wh, .int .i64 al, .int .i64 ow, .int .i64 fi, .string d, .string f] 54) := get_allocS hK
        obtain ⟨k0, k1, k2, k3, k4, k5, k6⟩ := cells7_of hK2
        clear hb hK hK2
        go_wp2_with (go_at_call 50; refine (l1In_any _ _ _ _).mono ?_; rintro e w' ⟨rfl, rfl⟩)
        go_ret
        exact ⟨by simp [dnOkB, h1, h2], HB.out.alloc HB.out.size _⟩
      | true =>
        cases h3 : inB al 0 255 with
        | false =>
          go_enter Tryd.func87, Tryd.ntmps87
          go_wp2_with fail
          refine Calls.mono (HF.out _) ?_
          rintro e w1 ⟨rfl, hb⟩
          have hK : w1.heap[w.heap.size]? = some (.cells #[.int .i64 cr, .int .i64 wh, .int .i64 al, .int .i64 ow, .int .i64 fi, .string d, .string f] 54) := get_below hb (get_new rfl) (by simp)
          have HB : Hid (Below w.heap.size w w1) := ((Below.refl _ _).alloc (Nat.le_refl _) _).trans (hb.mono (by simp))
          have hK2 : (w1.alloc (.cells #[.bool s0, .bool s1, .bool s2, .int .i64 s3, .int .i64 s4] 144)).heap[w.heap.size]? = some (.cells #[.int .i64 cr, .int .i64 wh, .int .i64 al, .int .i64 ow, .int .i64 fi, .string d, .string f] 54) := get_allocS hK
          obtain ⟨k0, k1, k2, k3, k4, k5, k6⟩ := cells7_of hK2
          clear hb hK hK2
          go_wp2_with (go_at_call 50; refine (l1In_any _ _ _ _).mono ?_; rintro e w' ⟨rfl, rfl⟩)
          go_ret
          exact ⟨by simp [dnOkB, h1, h2, h3], HB.out.alloc HB.out.size _⟩
        | true =>
          cases h4 : inB ow 0 255 with
          | false =>
            go_enter Tryd.func87, Tryd.ntmps87
            go_wp2_with fail
            refine Calls.mono (HF.out _) ?_
            rintro e w1 ⟨rfl, hb⟩
            have hK : w1.heap[w.heap.size]? = some (.cells #[.int .i64 cr, .int .i64 wh, .int .i64 al, .int .i64 ow, .int .i64 fi, .string d, .string f] 54) := get_below hb (get_new rfl) (by simp)
            have HB : Hid (Below w.heap.size w w1) := ((Below.refl _ _).alloc (Nat.le_refl _) _).trans (hb.mono (by simp))
            have hK2 : (w1.alloc (.cells #[.bool s0, .bool s1, .bool s2, .int .i64 s3, .int .i64 s4] 144)).heap[w.heap.size]? = some (.cells #[.int .i64 cr, .int .i64 wh, .int .i64 al, .int .i64 ow, .int .i64 fi, .string d, .string f] 54) := get_allocS hK
            obtain ⟨k0, k1, k2, k3, k4, k5, k6⟩ := cells7_of hK2
            clear hb hK hK2
            go_wp2_with (go_at_call 50; refine (l1In_any _ _ _ _).mono ?_; rintro e w' ⟨rfl, rfl⟩)
            go_ret
            exact ⟨by simp [dnOkB, h1, h2, h3, h4], HB.out.alloc HB.out.size _⟩
          | true =>
            cases h5 : inB fi 0 27 with
            | true =>
              by_cases hz : (d.size : Int) = 28
              · have hzb : ((d.size : Int) == 28) = true := by rw [beq_iff_eq]; exact hz
                go_enter Tryd.func87, Tryd.ntmps87
                go_wp2_with fail
                refine Calls.mono (HF.out _) ?_
                rintro e w1 ⟨rfl, hb⟩
                have hK : w1.heap[w.heap.size]? = some (.cells #[.int .i64 cr, .int .i64 wh, .int .i64 al, .int .i64 ow, .int .i64 fi, .string d, .string f] 54) := get_below hb (get_new rfl) (by simp)
                have HB : Hid (Below w.heap.size w w1) := ((Below.refl _ _).alloc (Nat.le_refl _) _).trans (hb.mono (by simp))
                have hK2 : (w1.alloc (.cells #[.bool s0, .bool s1, .bool s2, .int .i64 s3, .int .i64 s4] 144)).heap[w.heap.size]? = some (.cells #[.int .i64 cr, .int .i64 wh, .int .i64 al, .int .i64 ow, .int .i64 fi, .string d, .string f] 54) := get_allocS hK
                obtain ⟨k0, k1, k2, k3, k4, k5, k6⟩ := cells7_of hK2
                clear hb hK hK2
                go_wp2_with (go_at_call 50; refine (l1In_any _ _ _ _).mono ?_; rintro e w' ⟨rfl, rfl⟩)
                go_ret
                exact ⟨by simp [dnOkB, h1, h2, h3, h4, h5, hz], HB.out.alloc HB.out.size _⟩
              · have hzb : ((d.size : Int) == 28) = false := by rw [beq_eq_false_iff_ne]; exact hz
                go_enter Tryd.func87, Tryd.ntmps87
                go_wp2_with fail
                refine Calls.mono (HF.out _) ?_
                rintro e w1 ⟨rfl, hb⟩
                have hK : w1.heap[w.heap.size]? = some (.cells #[.int .i64 cr, .int .i64 wh, .int .i64 al, .int .i64 ow, .int .i64 fi, .string d, .string f] 54) := get_below hb (get_new rfl) (by simp)
                have HB : Hid (Below w.heap.size w w1) := ((Below.refl _ _).alloc (Nat.le_refl _) _).trans (hb.mono (by simp))
                have hK2 : (w1.alloc (.cells #[.bool s0, .bool s1, .bool s2, .int .i64 s3, .int .i64 s4] 144)).heap[w.heap.size]? = some (.cells #[.int .i64 cr, .int .i64 wh, .int .i64 al, .int .i64 ow, .int .i64 fi, .string d, .string f] 54) := get_allocS hK
                obtain ⟨k0, k1, k2, k3, k4, k5, k6⟩ := cells7_of hK2
                clear hb hK hK2
                go_wp2_with (go_at_call 50; refine (l1In_any _ _ _ _).mono ?_; rintro e w' ⟨rfl, rfl⟩)
                go_ret
                exact ⟨by simp [dnOkB, h1, h2, h3, h4, h5, hz], HB.out.alloc HB.out.size _⟩
            | false =>
              by_cases h6 : fi = 2047
              · subst h6
                by_cases hz : (d.size : Int) = 28
                · have hzb : ((d.size : Int) == 28) = true := by rw [beq_iff_eq]; exact hz
                  go_enter Tryd.func87, Tryd.ntmps87
                  go_wp2_with fail
                  refine Calls.mono (HF.out _) ?_
                  rintro e w1 ⟨rfl, hb⟩
                  have hK : w1.heap[w.heap.size]? = some (.cells #[.int .i64 cr, .int .i64 wh, .int .i64 al, .int .i64 ow, .int .i64 2047, .string d, .string f] 54) := get_below hb (get_new rfl) (by simp)
                  have HB : Hid (Below w.heap.size w w1) := ((Below.refl _ _).alloc (Nat.le_refl _) _).trans (hb.mono (by simp))
                  have hK2 : (w1.alloc (.cells #[.bool s0, .bool s1, .bool s2, .int .i64 s3, .int .i64 s4] 144)).heap[w.heap.size]? = some (.cells #[.int .i64 cr, .int .i64 wh, .int .i64 al, .int .i64 ow, .int .i64 2047, .string d, .string f] 54) := get_allocS hK
                  obtain ⟨k0, k1, k2, k3, k4, k5, k6⟩ := cells7_of hK2
                  clear hb hK hK2
                  go_wp2_with (go_at_call 50; refine (l1In_any _ _ _ _).mono ?_; rintro e w' ⟨rfl, rfl⟩)
                  go_ret
                  exact ⟨by simp [dnOkB, h1, h2, h3, h4, h5, hz], HB.out.alloc HB.out.size _⟩
                · have hzb : ((d.size : Int) == 28) = false := by rw [beq_eq_false_iff_ne]; exact hz
                  go_enter Tryd.func87, Tryd.ntmps87
                  go_wp2_with fail
                  refine Calls.mono (HF.out _) ?_
                  rintro e w1 ⟨rfl, hb⟩
                  have hK : w1.heap[w.heap.size]? = some (.cells #[.int .i64 cr, .int .i64 wh, .int .i64 al, .int .i64 ow, .int .i64 2047, .string d, .string f] 54) := get_below hb (get_new rfl) (by simp)
                  have HB : Hid (Below w.heap.size w w1) := ((Below.refl _ _).alloc (Nat.le_refl _) _).trans (hb.mono (by simp))
                  have hK2 : (w1.alloc (.cells #[.bool s0, .bool s1, .bool s2, .int .i64 s3, .int .i64 s4] 144)).heap[w.heap.size]? = some (.cells #[.int .i64 cr, .int .i64 wh, .int .i64 al, .int .i64 ow, .int .i64 2047, .string d, .string f] 54) := get_allocS hK
                  obtain ⟨k0, k1, k2, k3, k4, k5, k6⟩ := cells7_of hK2
                  clear hb hK hK2
                  go_wp2_with (go_at_call 50; refine (l1In_any _ _ _ _).mono ?_; rintro e w' ⟨rfl, rfl⟩)
                  go_ret
                  exact ⟨by simp [dnOkB, h1, h2, h3, h4, h5, hz], HB.out.alloc HB.out.size _⟩
              · have h6b : (fi == 2047) = false := by rw [beq_eq_false_iff_ne]; exact h6
                by_cases h7 : fi = 2046
                · subst h7
                  by_cases hz : (d.size : Int) = 28
                  · have hzb : ((d.size : Int) == 28) = true := by rw [beq_iff_eq]; exact hz
                    go_enter Tryd.func87, Tryd.ntmps87
                    go_wp2_with fail
                    refine Calls.mono (HF.out _) ?_
                    rintro e w1 ⟨rfl, hb⟩
                    have hK : w1.heap[w.heap.size]? = some (.cells #[.int .i64 cr, .int .i64 wh, .int .i64 al, .int .i64 ow, .int .i64 2046, .string d, .string f] 54) := get_below hb (get_new rfl) (by simp)
                    have HB : Hid (Below w.heap.size w w1) := ((Below.refl _ _).alloc (Nat.le_refl _) _).trans (hb.mono (by simp))
                    have hK2 : (w1.alloc (.cells #[.bool s0, .bool s1, .bool s2, .int .i64 s3, .int .i64 s4] 144)).heap[w.heap.size]? = some (.cells #[.int .i64 cr, .int .i64 wh, .int .i64 al, .int .i64 ow, .int .i64 2046, .string d, .string f] 54) := get_allocS hK
                    obtain ⟨k0, k1, k2, k3, k4, k5, k6⟩ := cells7_of hK2
                    clear hb hK hK2
                    go_wp2_with (go_at_call 50; refine (l1In_any _ _ _ _).mono ?_; rintro e w' ⟨rfl, rfl⟩)
                    go_ret
                    exact ⟨by simp [dnOkB, h1, h2, h3, h4, h5, hz], HB.out.alloc HB.out.size _⟩
                  · have hzb : ((d.size : Int) == 28) = false := by rw [beq_eq_false_iff_ne]; exact hz
                    go_enter Tryd.func87, Tryd.ntmps87
                    go_wp2_with fail
                    refine Calls.mono (HF.out _) ?_
                    rintro e w1 ⟨rfl, hb⟩
                    have hK : w1.heap[w.heap.size]? = some (.cells #[.int .i64 cr, .int .i64 wh, .int .i64 al, .int .i64 ow, .int .i64 2046, .string d, .string f] 54) := get_below hb (get_new rfl) (by simp)
                    have HB : Hid (Below w.heap.size w w1) := ((Below.refl _ _).alloc (Nat.le_refl _) _).trans (hb.mono (by simp))
                    have hK2 : (w1.alloc (.cells #[.bool s0, .bool s1, .bool s2, .int .i64 s3, .int .i64 s4] 144)).heap[w.heap.size]? = some (.cells #[.int .i64 cr, .int .i64 wh, .int .i64 al, .int .i64 ow, .int .i64 2046, .string d, .string f] 54) := get_allocS hK
                    obtain ⟨k0, k1, k2, k3, k4, k5, k6⟩ := cells7_of hK2
                    clear hb hK hK2
                    go_wp2_with (go_at_call 50; refine (l1In_any _ _ _ _).mono ?_; rintro e w' ⟨rfl, rfl⟩)
                    go_ret
                    exact ⟨by simp [dnOkB, h1, h2, h3, h4, h5, hz], HB.out.alloc HB.out.size _⟩
                · have h7b : (fi == 2046) = false := by rw [beq_eq_false_iff_ne]; exact h7
                  go_enter Tryd.func87, Tryd.ntmps87
                  go_wp2_with fail
                  refine Calls.mono (HF.out _) ?_
                  rintro e w1 ⟨rfl, hb⟩
                  have hK : w1.heap[w.heap.size]? = some (.cells #[.int .i64 cr, .int .i64 wh, .int .i64 al, .int .i64 ow, .int .i64 fi, .string d, .string f] 54) := get_below hb (get_new rfl) (by simp)
                  have HB : Hid (Below w.heap.size w w1) := ((Below.refl _ _).alloc (Nat.le_refl _) _).trans (hb.mono (by simp))
                  have hK2 : (w1.alloc (.cells #[.bool s0, .bool s1, .bool s2, .int .i64 s3, .int .i64 s4] 144)).heap[w.heap.size]? = some (.cells #[.int .i64 cr, .int .i64 wh, .int .i64 al, .int .i64 ow, .int .i64 fi, .string d, .string f] 54) := get_allocS hK
                  obtain ⟨k0, k1, k2, k3, k4, k5, k6⟩ := cells7_of hK2
                  clear hb hK hK2
                  go_wp2_with (go_at_call 50; refine (l1In_any _ _ _ _).mono ?_; rintro e w' ⟨rfl, rfl⟩)
                  go_ret
                  exact ⟨by simp [dnOkB, h1, h2, h3, h4, h5, h6, h7], HB.out.alloc HB.out.size _⟩
end Go.Proofs.YtccpdadabndleaaDoor
