/- The contract of spec.l15Frame. -/
import Derived.Test.YtlifigpkjbnkhaaDoorDrawM
namespace Go.Proofs.YtlifigpkjbnkhaaDoor
open Go.ChangeShapes Go.WideShapes Go.ChangeAt Go.RowKit
set_option linter.unusedVariables false
def dfrT (g r : Nat) (V : Nat → Value) : Act := { tmps := #[.pointer (some ⟨g, 0, none⟩), undef, .pointer (some ⟨r, 0, none⟩), V 27, V 0, V 1, V 2, V 3, V 4, V 5, V 6, V 7, V 8, V 9, V 10, V 11, V 12, V 13, V 14, V 15, V 16, V 17, V 18, V 19, V 20, V 21, V 22, V 23, V 24, V 25, V 26, undef, undef, undef, undef, undef, undef, undef, undef, undef, undef, undef, undef, undef, undef, undef, undef, undef, undef, undef, undef, undef], defers := [] }
def dfrC (L : Nat → Bool) : Nat := (L 2).toNat + (L 9).toNat + (L 15).toNat + (L 17).toNat + (L 20).toNat + 61 * (L 24).toNat
theorem dfrC_le (L : Nat → Bool) : dfrC L ≤ 66 := by
  have h2 := Bool.toNat_le (L 2)
  have h9 := Bool.toNat_le (L 9)
  have h15 := Bool.toNat_le (L 15)
  have h17 := Bool.toNat_le (L 17)
  have h20 := Bool.toNat_le (L 20)
  have h24 := Bool.toNat_le (L 24)
  simp only [dfrC]
  omega
def dfrS (g base : Nat) : Nat → Value → World → Prop
  | 0, v, w => SInts base 3 0 1023 v w
  | 1, v, w => v = .pointer (some ⟨g, 0, none⟩)
  | 2, v, w => SNat 7 v
  | 3, v, w => SNat 21 v
  | 4, v, w => SNat 2 v
  | 5, v, w => SElem base 0 1023 v w
  | 6, v, w => SInt 0 1023 v
  | 7, v, w => SInts base 3 0 63 v w
  | 8, v, w => v = .pointer (some ⟨g, 0, none⟩)
  | 9, v, w => SNat 7 v
  | 10, v, w => SNat 21 v
  | 11, v, w => SNat 2 v
  | 12, v, w => SElem base 0 63 v w
  | 13, v, w => SInt 0 63 v
  | 14, v, w => v = .pointer (some ⟨g, 0, none⟩)
  | 15, v, w => SNat 11 v
  | 16, v, w => v = .pointer (some ⟨g, 0, none⟩)
  | 17, v, w => SNat 255 v
  | 18, v, w => SInts base 3 0 255 v w
  | 19, v, w => v = .pointer (some ⟨g, 0, none⟩)
  | 20, v, w => SNat 2 v
  | 21, v, w => SElem base 0 255 v w
  | 22, v, w => SInt 0 255 v
  | 23, v, w => v = .pointer (some ⟨g, 0, none⟩)
  | 24, v, w => SStr 20 v
  | 25, v, w => SStr 21 v
  | 26, v, w => ∃ (x2 : Int) (x3 : Int) (x4 : Int) (x5 : ByteArray), 0 ≤ x2 ∧ x2 ≤ 1023 ∧ 0 ≤ x3 ∧ x3 ≤ 63 ∧ 0 ≤ x4 ∧ x4 ≤ 255 ∧ x5.size ≤ 21 ∧ v = .agg #[.bool false, .bool false, .int .i64 x2, .int .i64 x3, .int .i64 x4, .string x5]
  | 27, v, w => SNew base (.cells #[.bool false, .bool false, .int .i64 0, .int .i64 0, .int .i64 0, .string ⟨#[]⟩] 23) v w
  | _, _, _ => True
theorem dfrS_keep {g base : Nat} (hg : g < base) : ∀ (j : Nat) (v : Value) (w w' : World), Only g w w' → dfrS g base j v w → dfrS g base j v w' := by
  intro j v w w' h s
  match j, s with
  | 0, s => exact SInts.keep hg h s
  | 1, s => exact s
  | 2, s => exact s
  | 3, s => exact s
  | 4, s => exact s
  | 5, s => exact SElem.keep hg h s
  | 6, s => exact s
  | 7, s => exact SInts.keep hg h s
  | 8, s => exact s
  | 9, s => exact s
  | 10, s => exact s
  | 11, s => exact s
  | 12, s => exact SElem.keep hg h s
  | 13, s => exact s
  | 14, s => exact s
  | 15, s => exact s
  | 16, s => exact s
  | 17, s => exact s
  | 18, s => exact SInts.keep hg h s
  | 19, s => exact s
  | 20, s => exact s
  | 21, s => exact SElem.keep hg h s
  | 22, s => exact s
  | 23, s => exact s
  | 24, s => exact s
  | 25, s => exact s
  | 26, s => exact s
  | 27, s => exact SNew.keep hg h s
  | 28, s => trivial
  | _ + 29, s => trivial
def dfrZ (N g B : Nat) (wr : World) (L : Nat → Bool) (V : Nat → Value) (W : World) : Prop := Only g wr W ∧ Rd (N + 66) W g ∧ ∃ (b : Nat) (c v q : Int) (d : ByteArray), B ≤ b ∧ 0 ≤ c ∧ c ≤ 1023 ∧ 0 ≤ v ∧ v ≤ 63 ∧ 0 ≤ q ∧ q ≤ 255 ∧ d.size ≤ 21 ∧
  V 27 = .pointer (some ⟨b, 0, none⟩) ∧ V 26 = .agg #[.bool false, .bool false, .int .i64 c, .int .i64 v, .int .i64 q, .string d] ∧ W.heap[b]? = some (.cells (cond (L 28) #[.bool false, .bool false, .int .i64 c, .int .i64 v, .int .i64 q, .string d] #[.bool false, .bool false, .int .i64 0, .int .i64 0, .int .i64 0, .string ⟨#[]⟩]) 23)
set_option maxRecDepth 100000 in
set_option maxHeartbeats 1000000 in
theorem l15Frame_any (N g : Nat) (w : World) (hN : N ≤ 400000) (hr : Rd N w g) :
    Calls Tryd.prog 48 #[.pointer (some ⟨g, 0, none⟩)] w fun e w' => ∃ (p gv : Bool) (c v q : Int) (d : ByteArray), 0 ≤ c ∧ c ≤ 1023 ∧ 0 ≤ v ∧ v ≤ 63 ∧ 0 ≤ q ∧ q ≤ 255 ∧ d.size ≤ 53 ∧ e = .returned (.agg #[.bool p, .bool gv, .int .i64 c, .int .i64 v, .int .i64 q, .string d]) ∧ Only g w w' ∧ Rd (N + 68) w' g := by
  have hg := hr.lt
  have HR : Hid (Rd N (w.alloc (.cells #[.bool false, .bool false, .int .i64 0, .int .i64 0, .int .i64 0, .string ⟨#[]⟩] 23)) g) := rdA hr
  clear hr
  go_enter Tryd.func48, Tryd.ntmps48
  go_wp2_with fail
  generalize hwr : w.alloc (.cells #[.bool false, .bool false, .int .i64 0, .int .i64 0, .int .i64 0, .string ⟨#[]⟩] 23) = wr at *
  have hwz : wr.heap.size = w.heap.size + 1 := by rw [← hwr]; simp
  have HG0 : Hid (wr.heap[w.heap.size]? = some (.cells #[.bool false, .bool false, .int .i64 0, .int .i64 0, .int .i64 0, .string ⟨#[]⟩] 23)) := by rw [← hwr]; exact get_new rfl
  have HW0 : Hid (Only g w wr) := by rw [← hwr]; exact (Only.refl _ _).alloc _
  clear hwr
  obtain ⟨B, hB⟩ : ∃ B, B = wr.heap.size := ⟨_, rfl⟩
  have hgB : g < B := by omega
  refine wp_region_slots (by kernel_rfl) (fun j => j == 28) (Only g) (dfrS g B) (dfrT g w.heap.size) (fun L W => Only g wr W ∧ Rd (N + dfrC L) W g) (dfrZ N g B wr) _ (by kernel_rfl) (by kernel_rfl) (dfrS_keep hgB) (fun _ => undef) _ rfl ?_ ⟨(Only.refl _ _).drew, HR.out.below ((Below.refl _ _).drew)⟩ ?_ ?_ ?_
  · exact StepAll.cons (fun V v => rfl) (StepAll.cons (fun V v => rfl) (StepAll.cons (fun V v => rfl) (StepAll.cons (fun V v => rfl) (StepAll.cons (fun V v => rfl) (StepAll.cons (fun V v => rfl) (StepAll.cons (fun V v => rfl) (StepAll.cons (fun V v => rfl) (StepAll.cons (fun V v => rfl) (StepAll.cons (fun V v => rfl) (StepAll.cons (fun V v => rfl) (StepAll.cons (fun V v => rfl) (StepAll.cons (fun V v => rfl) (StepAll.cons (fun V v => rfl) (StepAll.cons (fun V v => rfl) (StepAll.cons (fun V v => rfl) (StepAll.cons (fun V v => rfl) (StepAll.cons (fun V v => rfl) (StepAll.cons (fun V v => rfl) (StepAll.cons (fun V v => rfl) (StepAll.cons (fun V v => rfl) (StepAll.cons (fun V v => rfl) (StepAll.cons (fun V v => rfl) (StepAll.cons (fun V v => rfl) (StepAll.cons (fun V v => rfl) (StepAll.cons (fun V v => rfl) (StepAll.cons (fun V v => rfl) (StepAll.cons (fun V v => rfl) (StepAll.cons (fun V v => rfl) StepAll.nil))))))))))))))))))))))))))))
  · intro L V W hS hnf hG
    obtain ⟨x2, x3, x4, x5, a1, a2, a3, a4, a5, a6, a7, e26⟩ : ∃ (x2 : Int) (x3 : Int) (x4 : Int) (x5 : ByteArray), 0 ≤ x2 ∧ x2 ≤ 1023 ∧ 0 ≤ x3 ∧ x3 ≤ 63 ∧ 0 ≤ x4 ∧ x4 ≤ 255 ∧ x5.size ≤ 21 ∧ (V 26) = .agg #[.bool false, .bool false, .int .i64 x2, .int .i64 x3, .int .i64 x4, .string x5] := (hS 26 (by decide) rfl).1
    obtain ⟨b, hb, e27, hh⟩ : SNew B (.cells #[.bool false, .bool false, .int .i64 0, .int .i64 0, .int .i64 0, .string ⟨#[]⟩] 23) (V 27) W := (hS 27 (by decide) rfl).1
    have h28 : L 28 = false := hnf 28 (by decide) rfl
    have hC : dfrC L = 66 := by simp only [dfrC, (hS 2 (by decide) rfl).2, (hS 9 (by decide) rfl).2, (hS 15 (by decide) rfl).2, (hS 17 (by decide) rfl).2, (hS 20 (by decide) rfl).2, (hS 24 (by decide) rfl).2]; rfl
    exact ⟨hG.1, by have := hG.2; rw [hC] at this; exact this, b, x2, x3, x4, x5, hb, a1, a2, a3, a4, a5, a6, a7, e27, e26, by rw [h28]; exact hh⟩
  · intro L V W hZ hall
    obtain ⟨HO, HR', b, c, v, q, d, hb, hc0, hc1, hv0, hv1, hq0, hq1, hd, e27, e26, hF⟩ := hZ
    have h28 : L 28 = true := hall 28 (by decide)
    rw [h28] at hF
    dsimp only [cond] at hF
    dsimp only [dfrT]
    rw [e27, e26]
    have HF : Hid (W.heap[b]? = some (.cells #[.bool false, .bool false, .int .i64 c, .int .i64 v, .int .i64 q, .string d] 23)) := hF
    have HG : Hid (W.heap[w.heap.size]? = some (.cells #[.bool false, .bool false, .int .i64 0, .int .i64 0, .int .i64 0, .string ⟨#[]⟩] 23)) := get_only HO HG0.out (by omega)
    have HW : Hid (Only g w W) := HW0.out.trans HO
    have HR : Hid (Rd (N + 66) W g) := HR'
    have hne : ¬ w.heap.size = b := by omega
    have hne' : ¬ b = w.heap.size := by omega
    have hgb : g < b := by omega
    have hwb : w.heap.size < b := by omega
    clear HO HR' hF e27 e26 hall h28 HG0 HW0
    go_wp2_with fail
    refine (pickI (N + 66) g _ _ (by omega) (by omega) (by omega) HR.out).mono ?_
    rintro e w2 ⟨v2, hv2, rfl, ho2, hr2⟩
    have hG2 : w2.heap[w.heap.size]? = some (.cells #[.bool false, .bool false, .int .i64 0, .int .i64 0, .int .i64 0, .string ⟨#[]⟩] 23) := get_only ho2 HG.out (by omega)
    have hF2 : w2.heap[b]? = some (.cells #[.bool false, .bool false, .int .i64 c, .int .i64 v, .int .i64 q, .string d] 23) := get_only ho2 HF.out (by omega)
    obtain ⟨k0, k1, k2, k3, k4, k5⟩ := cells6_of hG2
    obtain ⟨j0, j1, j2, j3, j4, j5⟩ := cells6_of hF2
    have f0 : ∀ j, w2.frozen? ⟨w.heap.size, j, none⟩ = false := fun j => frozen_get hG2
    have f1 : ∀ j, w2.frozen? ⟨b, j, none⟩ = false := fun j => frozen_get hF2
    have s0 : ∀ u, (w2.setCell ⟨b, 0, none⟩ u).cell? ⟨b, 0, none⟩ = some u := fun u => World.cell?_setCell_same _ _ _ j0
    have s1 : ∀ u, (w2.setCell ⟨b, 1, none⟩ u).cell? ⟨b, 1, none⟩ = some u := fun u => World.cell?_setCell_same _ _ _ j1
    have s2 : ∀ u, (w2.setCell ⟨b, 2, none⟩ u).cell? ⟨b, 2, none⟩ = some u := fun u => World.cell?_setCell_same _ _ _ j2
    have s3 : ∀ u, (w2.setCell ⟨b, 3, none⟩ u).cell? ⟨b, 3, none⟩ = some u := fun u => World.cell?_setCell_same _ _ _ j3
    have s4 : ∀ u, (w2.setCell ⟨b, 4, none⟩ u).cell? ⟨b, 4, none⟩ = some u := fun u => World.cell?_setCell_same _ _ _ j4
    have s5 : ∀ u, (w2.setCell ⟨b, 5, none⟩ u).cell? ⟨b, 5, none⟩ = some u := fun u => World.cell?_setCell_same _ _ _ j5
    have HG : Hid _ := hG2
    have HF : Hid _ := hF2
    clear hG2 hF2
    have HW : Hid (Only g w w2) := HW.out.trans ho2
    have HR : Hid (Rd (N + 67) w2 g) := hr2
    have hz2 : b < w2.heap.size := size_of_get HF.out
    clear ho2 hr2
    have hcase : v2 = 0 ∨ v2 = 1 ∨ v2 = 2 ∨ 3 ≤ v2 := by omega
    rcases hcase with rfl | rfl | rfl | h3
    · go_wp2_with fail
      refine bodyPost_ret (v := .agg #[.bool true, .bool false, .int .i64 c, .int .i64 v, .int .i64 q, .string d]) (results_cell_row Tryd.results48 _ _ w.heap.size 23 #[.bool true, .bool false, .int .i64 c, .int .i64 v, .int .i64 q, .string d] (0, 0) _ rfl ?_ Tryd.underlying23 rfl cells26) rfl ⟨_, _, _, _, _, _, by omega, by omega, by omega, by omega, by omega, by omega, by omega, rfl, ?_, ?_⟩
      · exact get_set (get_set (get_set (get_set (get_set (get_set (get_set_ne (HG.out) hne) rfl) rfl) rfl) rfl) rfl) rfl
      · exact onlyS (onlyS (onlyS (onlyS (onlyS (onlyS (onlyS (HW.out) (by omega)) (by omega)) (by omega)) (by omega)) (by omega)) (by omega)) (by omega)
      · exact (rdS (rdS (rdS (rdS (rdS (rdS (rdS (HR.out) (by omega)) (by omega)) (by omega)) (by omega)) (by omega)) (by omega)) (by omega)).mono (by omega)
    · have HR : Hid (Rd (N + 67) (((w2.setCell ⟨b, 0, none⟩ (.bool true)).setCell ⟨b, 1, none⟩ (.bool true)).alloc (.cells #[.string ⟨#[0]⟩, .string ⟨#[130, 0, 7]⟩, .string ⟨#[130, 0, 255]⟩, .string ⟨#[130, 0]⟩, .string ⟨#[120]⟩] 9)) g) := rdA (rdS (rdS (HR.out) (by omega)) (by omega))
      have hzs : ((w2.setCell ⟨b, 0, none⟩ (.bool true)).setCell ⟨b, 1, none⟩ (.bool true)).heap.size = w2.heap.size := by simp [World.setCell]
      have HG2 : Hid ((((w2.setCell ⟨b, 0, none⟩ (.bool true)).setCell ⟨b, 1, none⟩ (.bool true)).alloc (.cells #[.string ⟨#[0]⟩, .string ⟨#[130, 0, 7]⟩, .string ⟨#[130, 0, 255]⟩, .string ⟨#[130, 0]⟩, .string ⟨#[120]⟩] 9)).heap[w.heap.size]? = some (.cells #[.bool false, .bool false, .int .i64 0, .int .i64 0, .int .i64 0, .string ⟨#[]⟩] 23)) := get_allocS (get_set_ne (get_set_ne HG.out hne) hne)
      have HF2 : Hid ((((w2.setCell ⟨b, 0, none⟩ (.bool true)).setCell ⟨b, 1, none⟩ (.bool true)).alloc (.cells #[.string ⟨#[0]⟩, .string ⟨#[130, 0, 7]⟩, .string ⟨#[130, 0, 255]⟩, .string ⟨#[130, 0]⟩, .string ⟨#[120]⟩] 9)).heap[b]? = some (.cells #[.bool true, .bool true, .int .i64 c, .int .i64 v, .int .i64 q, .string d] 23)) := get_allocS (get_set (get_set HF.out rfl) rfl)
      have HW : Hid (Only g w (((w2.setCell ⟨b, 0, none⟩ (.bool true)).setCell ⟨b, 1, none⟩ (.bool true)).alloc (.cells #[.string ⟨#[0]⟩, .string ⟨#[130, 0, 7]⟩, .string ⟨#[130, 0, 255]⟩, .string ⟨#[130, 0]⟩, .string ⟨#[120]⟩] 9))) := (onlyS (onlyS (HW.out) (by omega)) (by omega)).alloc _
      go_wp2_with fail
      refine (of_lit (N + 67) g w2.heap.size 5 5 [⟨#[0]⟩, ⟨#[130, 0, 7]⟩, ⟨#[130, 0, 255]⟩, ⟨#[130, 0]⟩, ⟨#[120]⟩] _ rfl (by omega) (by omega) (by omega) HR.out (by omega) (strs_new hzs.symm _)).mono ?_
      rintro e w3 ⟨y, hy, rfl, ho3, hr3⟩
      have HY : Hid (y.size ≤ 3) := by
        simp only [List.mem_cons, List.not_mem_nil, or_false] at hy
        show y.size ≤ 3
        rcases hy with rfl | rfl | rfl | rfl | rfl <;> decide
      clear k0 k1 k2 k3 k4 k5 j0 j1 j2 j3 j4 j5 f0 f1 s0 s1 s2 s3 s4 s5
      clear HG HF hy
      have hG3 : w3.heap[w.heap.size]? = some (.cells #[.bool false, .bool false, .int .i64 0, .int .i64 0, .int .i64 0, .string ⟨#[]⟩] 23) := get_only ho3 HG2.out (by omega)
      have hF3 : w3.heap[b]? = some (.cells #[.bool true, .bool true, .int .i64 c, .int .i64 v, .int .i64 q, .string d] 23) := get_only ho3 HF2.out (by omega)
      obtain ⟨k0, k1, k2, k3, k4, k5⟩ := cells6_of hG3
      obtain ⟨j0, j1, j2, j3, j4, j5⟩ := cells6_of hF3
      have f0 : ∀ j, w3.frozen? ⟨w.heap.size, j, none⟩ = false := fun j => frozen_get hG3
      have f1 : ∀ j, w3.frozen? ⟨b, j, none⟩ = false := fun j => frozen_get hF3
      have s0 : ∀ u, (w3.setCell ⟨b, 0, none⟩ u).cell? ⟨b, 0, none⟩ = some u := fun u => World.cell?_setCell_same _ _ _ j0
      have s1 : ∀ u, (w3.setCell ⟨b, 1, none⟩ u).cell? ⟨b, 1, none⟩ = some u := fun u => World.cell?_setCell_same _ _ _ j1
      have s2 : ∀ u, (w3.setCell ⟨b, 2, none⟩ u).cell? ⟨b, 2, none⟩ = some u := fun u => World.cell?_setCell_same _ _ _ j2
      have s3 : ∀ u, (w3.setCell ⟨b, 3, none⟩ u).cell? ⟨b, 3, none⟩ = some u := fun u => World.cell?_setCell_same _ _ _ j3
      have s4 : ∀ u, (w3.setCell ⟨b, 4, none⟩ u).cell? ⟨b, 4, none⟩ = some u := fun u => World.cell?_setCell_same _ _ _ j4
      have s5 : ∀ u, (w3.setCell ⟨b, 5, none⟩ u).cell? ⟨b, 5, none⟩ = some u := fun u => World.cell?_setCell_same _ _ _ j5
      have HG : Hid _ := hG3
      have HF : Hid _ := hF3
      clear hG3 hF3
      have HW : Hid (Only g w w3) := HW.out.trans ho3
      have HR : Hid (Rd (N + 68) w3 g) := hr3
      clear ho3 hr3 HG2 HF2
      go_wp2_with fail
      refine bodyPost_ret (v := .agg #[.bool true, .bool true, .int .i64 c, .int .i64 v, .int .i64 q, .string y]) (results_cell_row Tryd.results48 _ _ w.heap.size 23 #[.bool true, .bool true, .int .i64 c, .int .i64 v, .int .i64 q, .string y] (0, 0) _ rfl ?_ Tryd.underlying23 rfl cells26) rfl ⟨_, _, _, _, _, _, by omega, by omega, by omega, by omega, by omega, by omega, by have := HY.out; omega, rfl, ?_, ?_⟩
      · exact get_set (get_set (get_set (get_set (get_set (get_set (get_set_ne (HG.out) hne) rfl) rfl) rfl) rfl) rfl) rfl
      · exact onlyS (onlyS (onlyS (onlyS (onlyS (onlyS (onlyS (HW.out) (by omega)) (by omega)) (by omega)) (by omega)) (by omega)) (by omega)) (by omega)
      · exact (rdS (rdS (rdS (rdS (rdS (rdS (rdS (HR.out) (by omega)) (by omega)) (by omega)) (by omega)) (by omega)) (by omega)) (by omega)).mono (by omega)
    · clear k0 k1 k2 k3 k4 k5 j0 j1 j2 j3 j4 j5 f0 f1 s0 s1 s2 s3 s4 s5
      go_wp2_with fail
      refine (pickI (N + 67) g _ _ (by omega) (by omega) (by omega) HR.out).mono ?_
      rintro e w3 ⟨v3, hv3, rfl, ho3, hr3⟩
      have HG3 : Hid (w3.heap[w.heap.size]? = some (.cells #[.bool false, .bool false, .int .i64 0, .int .i64 0, .int .i64 0, .string ⟨#[]⟩] 23)) := get_only ho3 HG.out (by omega)
      have HF3 : Hid (w3.heap[b]? = some (.cells #[.bool false, .bool false, .int .i64 c, .int .i64 v, .int .i64 q, .string d] 23)) := get_only ho3 HF.out (by omega)
      have HW : Hid (Only g w w3) := HW.out.trans ho3
      have HR : Hid (Rd (N + 68) w3 g) := hr3
      clear ho3 hr3 HG HF
      go_wp2_with fail
      refine (l1ManyI ⟨#[122]⟩ (53 - (v3 : Int)) w3 (by omega) (by omega) (by decide)).mono ?_
      rintro e w4 ⟨y, hy, rfl, hb4⟩
      have HY : Hid (y.size ≤ 53) := Nat.le_trans hy (by show (53 - (v3 : Int)).toNat * 1 ≤ 53; omega)
      have hG4 : w4.heap[w.heap.size]? = some (.cells #[.bool false, .bool false, .int .i64 0, .int .i64 0, .int .i64 0, .string ⟨#[]⟩] 23) := get_below hb4 HG3.out (size_of_get HG3.out)
      have hF4 : w4.heap[b]? = some (.cells #[.bool false, .bool false, .int .i64 c, .int .i64 v, .int .i64 q, .string d] 23) := get_below hb4 HF3.out (size_of_get HF3.out)
      obtain ⟨k0, k1, k2, k3, k4, k5⟩ := cells6_of hG4
      obtain ⟨j0, j1, j2, j3, j4, j5⟩ := cells6_of hF4
      have f0 : ∀ j, w4.frozen? ⟨w.heap.size, j, none⟩ = false := fun j => frozen_get hG4
      have f1 : ∀ j, w4.frozen? ⟨b, j, none⟩ = false := fun j => frozen_get hF4
      have s0 : ∀ u, (w4.setCell ⟨b, 0, none⟩ u).cell? ⟨b, 0, none⟩ = some u := fun u => World.cell?_setCell_same _ _ _ j0
      have s1 : ∀ u, (w4.setCell ⟨b, 1, none⟩ u).cell? ⟨b, 1, none⟩ = some u := fun u => World.cell?_setCell_same _ _ _ j1
      have s2 : ∀ u, (w4.setCell ⟨b, 2, none⟩ u).cell? ⟨b, 2, none⟩ = some u := fun u => World.cell?_setCell_same _ _ _ j2
      have s3 : ∀ u, (w4.setCell ⟨b, 3, none⟩ u).cell? ⟨b, 3, none⟩ = some u := fun u => World.cell?_setCell_same _ _ _ j3
      have s4 : ∀ u, (w4.setCell ⟨b, 4, none⟩ u).cell? ⟨b, 4, none⟩ = some u := fun u => World.cell?_setCell_same _ _ _ j4
      have s5 : ∀ u, (w4.setCell ⟨b, 5, none⟩ u).cell? ⟨b, 5, none⟩ = some u := fun u => World.cell?_setCell_same _ _ _ j5
      have HG : Hid _ := hG4
      have HF : Hid _ := hF4
      clear hG4 hF4
      have HW : Hid (Only g w w4) := HW.out.trans (Only.of_below hb4)
      have HR : Hid (Rd (N + 68) w4 g) := HR.out.below hb4
      clear hb4 hy HG3 HF3
      go_wp2_with fail
      refine bodyPost_ret (v := .agg #[.bool false, .bool false, .int .i64 c, .int .i64 v, .int .i64 q, .string y]) (results_cell_row Tryd.results48 _ _ w.heap.size 23 #[.bool false, .bool false, .int .i64 c, .int .i64 v, .int .i64 q, .string y] (0, 0) _ rfl ?_ Tryd.underlying23 rfl cells26) rfl ⟨_, _, _, _, _, _, by omega, by omega, by omega, by omega, by omega, by omega, HY.out, rfl, ?_, ?_⟩
      · exact get_set (get_set (get_set (get_set (get_set (get_set (get_set_ne (HG.out) hne) rfl) rfl) rfl) rfl) rfl) rfl
      · exact onlyS (onlyS (onlyS (onlyS (onlyS (onlyS (onlyS (HW.out) (by omega)) (by omega)) (by omega)) (by omega)) (by omega)) (by omega)) (by omega)
      · exact (rdS (rdS (rdS (rdS (rdS (rdS (rdS (HR.out) (by omega)) (by omega)) (by omega)) (by omega)) (by omega)) (by omega)) (by omega)).mono (by omega)
    · have b0 : ((v2 : Int) == 0) = false := by rw [beq_eq_false_iff_ne]; omega
      have b1 : ((v2 : Int) == 1) = false := by rw [beq_eq_false_iff_ne]; omega
      have b2 : ((v2 : Int) == 2) = false := by rw [beq_eq_false_iff_ne]; omega
      go_wp2_with fail
      refine bodyPost_ret (v := .agg #[.bool false, .bool false, .int .i64 c, .int .i64 v, .int .i64 q, .string d]) (results_cell_row Tryd.results48 _ _ w.heap.size 23 #[.bool false, .bool false, .int .i64 c, .int .i64 v, .int .i64 q, .string d] (0, 0) _ rfl ?_ Tryd.underlying23 rfl cells26) rfl ⟨_, _, _, _, _, _, by omega, by omega, by omega, by omega, by omega, by omega, by omega, rfl, ?_, ?_⟩
      · exact get_set (get_set (get_set (get_set (get_set (get_set (HG.out) rfl) rfl) rfl) rfl) rfl) rfl
      · exact onlyS (onlyS (onlyS (onlyS (onlyS (onlyS (HW.out) (by omega)) (by omega)) (by omega)) (by omega)) (by omega)) (by omega)
      · exact (rdS (rdS (rdS (rdS (rdS (rdS (HR.out) (by omega)) (by omega)) (by omega)) (by omega)) (by omega)) (by omega)).mono (by omega)
  refine stepN rfl rfl ?_ (stepN rfl rfl ?_ (stepN rfl rfl ?_ (stepN rfl rfl ?_ (stepN rfl rfl ?_ (stepN rfl rfl ?_ (stepN rfl rfl ?_ (stepN rfl rfl ?_ (stepN rfl rfl ?_ (stepN rfl rfl ?_ (stepN rfl rfl ?_ (stepN rfl rfl ?_ (stepN rfl rfl ?_ (stepN rfl rfl ?_ (stepN rfl rfl ?_ (stepN rfl rfl ?_ (stepN rfl rfl ?_ (stepN rfl rfl ?_ (stepN rfl rfl ?_ (stepN rfl rfl ?_ (stepN rfl rfl ?_ (stepN rfl rfl ?_ (stepN rfl rfl ?_ (stepN rfl rfl ?_ (stepN rfl rfl ?_ (stepN rfl rfl ?_ (stepN rfl rfl ?_ (stepN rfl rfl ?_ (stepF rfl rfl ?_ (StepAll.nil)))))))))))))))))))))))))))))
  · intro L V W hV hG hL K hK
    dsimp only [dfrT] at hK ⊢
    have hcu : dfrC (updL L 0) = dfrC L := by simp only [dfrC, updL]; simp
    go_simp
    exact hK _ (.slice (some ⟨W.heap.size, 0, none⟩) 3 3) _ rfl ((Only.refl _ _).alloc _) ⟨hG.1.alloc _, by rw [hcu]; exact rdA hG.2⟩ (SInts.new [5, 0, 1023] 3 rfl (Nat.le_trans (Nat.le_of_eq hB) hG.1.size) (by simp only [List.mem_cons, List.not_mem_nil, or_false, forall_eq_or_imp, forall_eq]; omega))
  · intro L V W hV hG hL K hK
    dsimp only [dfrT] at hK ⊢
    have hcu : dfrC (updL L 1) = dfrC L := by simp only [dfrC, updL]; simp
    go_simp
    exact hK _ (.pointer (some ⟨g, 0, none⟩)) _ rfl (Only.refl _ _) ⟨hG.1, by rw [hcu]; exact hG.2⟩ rfl
  · intro L V W hV hG hL K hK
    dsimp only [dfrT] at hK ⊢
    have h1 : (V 1) = .pointer (some ⟨g, 0, none⟩) := hV 1 (by kernel_rfl)
    have e1 := h1
    rw [e1] at hK ⊢
    clear e1
    have hcb := dfrC_le L
    have hcu : dfrC (updL L 2) = dfrC L + 1 := by simp only [dfrC, updL, hL]; simp <;> omega
    go_simp
    refine (pickI (N + dfrC L) g 8 W (by omega) (by decide) (by decide) hG.2).mono ?_
    rintro e w1 ⟨v, hv, rfl, ho, hr⟩
    exact hK _ (.int .i64 (v : Int)) _ rfl ho ⟨hG.1.trans ho, hr.mono (by rw [hcu]; omega)⟩ ⟨v, by omega, rfl⟩
  · intro L V W hV hG hL K hK
    dsimp only [dfrT] at hK ⊢
    have hcu : dfrC (updL L 3) = dfrC L := by simp only [dfrC, updL]; simp
    have h2 : SNat 7 (V 2) := hV 2 (by kernel_rfl)
    obtain ⟨x2, hx2, e2⟩ := h2
    rw [e2] at hK ⊢
    clear e2
    have hq : ((x2 * 3 : Nat) : Int) = (x2 : Int) * 3 := by simp
    have hq2 : x2 * 3 ≤ 21 := by omega
    go_simp
    exact hK _ _ _ rfl (Only.refl _ _) ⟨hG.1, by rw [hcu]; exact hG.2⟩ ⟨x2 * 3, hq2, by rw [wrap_id _ (by omega) (by omega), hq]⟩
  · intro L V W hV hG hL K hK
    dsimp only [dfrT] at hK ⊢
    have hcu : dfrC (updL L 4) = dfrC L := by simp only [dfrC, updL]; simp
    have h3 : SNat 21 (V 3) := hV 3 (by kernel_rfl)
    obtain ⟨x3, hx3, e3⟩ := h3
    rw [e3] at hK ⊢
    clear e3
    have hq : ((x3 / 8 : Nat) : Int) = (x3 : Int) / 8 := by simp
    have hq2 : x3 / 8 ≤ 2 := by omega
    go_simp
    exact hK _ _ _ rfl (Only.refl _ _) ⟨hG.1, by rw [hcu]; exact hG.2⟩ ⟨x3 / 8, hq2, by rw [wrap_id _ (by omega) (by omega), hq]⟩
  · intro L V W hV hG hL K hK
    dsimp only [dfrT] at hK ⊢
    have hcu : dfrC (updL L 5) = dfrC L := by simp only [dfrC, updL]; simp
    have h0 : SInts B 3 0 1023 (V 0) W := hV 0 (by kernel_rfl)
    obtain ⟨b0, hb0, hz0, e0, hc0⟩ := h0
    have h4 : SNat 2 (V 4) := hV 4 (by kernel_rfl)
    obtain ⟨x4, hx4, e4⟩ := h4
    rw [e0, e4] at hK ⊢
    clear e0 e4
    have hlt : x4 < 3 := by omega
    have hlt2 : (x4 : Int) < 3 := by omega
    obtain ⟨y, hy1, hy2, hy3⟩ := hc0 x4 hlt
    go_simp
    exact hK _ (.pointer (some ⟨b0, x4, none⟩)) _ rfl (Only.refl _ _) ⟨hG.1, by rw [hcu]; exact hG.2⟩ ⟨b0, x4, y, hb0, hz0, rfl, hy1, hy2, hy3⟩
  · intro L V W hV hG hL K hK
    dsimp only [dfrT] at hK ⊢
    have hcu : dfrC (updL L 6) = dfrC L := by simp only [dfrC, updL]; simp
    have h5 : SElem B 0 1023 (V 5) W := hV 5 (by kernel_rfl)
    obtain ⟨b5, j5, y5, hb5, hz5, e5, hl5, hu5, hc5⟩ := h5
    rw [e5] at hK ⊢
    clear e5
    go_simp
    exact hK _ (.int .i64 y5) _ rfl (Only.refl _ _) ⟨hG.1, by rw [hcu]; exact hG.2⟩ ⟨y5, hl5, hu5, rfl⟩
  · intro L V W hV hG hL K hK
    dsimp only [dfrT] at hK ⊢
    have hcu : dfrC (updL L 7) = dfrC L := by simp only [dfrC, updL]; simp
    go_simp
    exact hK _ (.slice (some ⟨W.heap.size, 0, none⟩) 3 3) _ rfl ((Only.refl _ _).alloc _) ⟨hG.1.alloc _, by rw [hcu]; exact rdA hG.2⟩ (SInts.new [3, 0, 63] 3 rfl (Nat.le_trans (Nat.le_of_eq hB) hG.1.size) (by simp only [List.mem_cons, List.not_mem_nil, or_false, forall_eq_or_imp, forall_eq]; omega))
  · intro L V W hV hG hL K hK
    dsimp only [dfrT] at hK ⊢
    have hcu : dfrC (updL L 8) = dfrC L := by simp only [dfrC, updL]; simp
    go_simp
    exact hK _ (.pointer (some ⟨g, 0, none⟩)) _ rfl (Only.refl _ _) ⟨hG.1, by rw [hcu]; exact hG.2⟩ rfl
  · intro L V W hV hG hL K hK
    dsimp only [dfrT] at hK ⊢
    have h8 : (V 8) = .pointer (some ⟨g, 0, none⟩) := hV 8 (by kernel_rfl)
    have e8 := h8
    rw [e8] at hK ⊢
    clear e8
    have hcb := dfrC_le L
    have hcu : dfrC (updL L 9) = dfrC L + 1 := by simp only [dfrC, updL, hL]; simp <;> omega
    go_simp
    refine (pickI (N + dfrC L) g 8 W (by omega) (by decide) (by decide) hG.2).mono ?_
    rintro e w1 ⟨v, hv, rfl, ho, hr⟩
    exact hK _ (.int .i64 (v : Int)) _ rfl ho ⟨hG.1.trans ho, hr.mono (by rw [hcu]; omega)⟩ ⟨v, by omega, rfl⟩
  · intro L V W hV hG hL K hK
    dsimp only [dfrT] at hK ⊢
    have hcu : dfrC (updL L 10) = dfrC L := by simp only [dfrC, updL]; simp
    have h9 : SNat 7 (V 9) := hV 9 (by kernel_rfl)
    obtain ⟨x9, hx9, e9⟩ := h9
    rw [e9] at hK ⊢
    clear e9
    have hq : ((x9 * 3 : Nat) : Int) = (x9 : Int) * 3 := by simp
    have hq2 : x9 * 3 ≤ 21 := by omega
    go_simp
    exact hK _ _ _ rfl (Only.refl _ _) ⟨hG.1, by rw [hcu]; exact hG.2⟩ ⟨x9 * 3, hq2, by rw [wrap_id _ (by omega) (by omega), hq]⟩
  · intro L V W hV hG hL K hK
    dsimp only [dfrT] at hK ⊢
    have hcu : dfrC (updL L 11) = dfrC L := by simp only [dfrC, updL]; simp
    have h10 : SNat 21 (V 10) := hV 10 (by kernel_rfl)
    obtain ⟨x10, hx10, e10⟩ := h10
    rw [e10] at hK ⊢
    clear e10
    have hq : ((x10 / 8 : Nat) : Int) = (x10 : Int) / 8 := by simp
    have hq2 : x10 / 8 ≤ 2 := by omega
    go_simp
    exact hK _ _ _ rfl (Only.refl _ _) ⟨hG.1, by rw [hcu]; exact hG.2⟩ ⟨x10 / 8, hq2, by rw [wrap_id _ (by omega) (by omega), hq]⟩
  · intro L V W hV hG hL K hK
    dsimp only [dfrT] at hK ⊢
    have hcu : dfrC (updL L 12) = dfrC L := by simp only [dfrC, updL]; simp
    have h7 : SInts B 3 0 63 (V 7) W := hV 7 (by kernel_rfl)
    obtain ⟨b7, hb7, hz7, e7, hc7⟩ := h7
    have h11 : SNat 2 (V 11) := hV 11 (by kernel_rfl)
    obtain ⟨x11, hx11, e11⟩ := h11
    rw [e7, e11] at hK ⊢
    clear e7 e11
    have hlt : x11 < 3 := by omega
    have hlt2 : (x11 : Int) < 3 := by omega
    obtain ⟨y, hy1, hy2, hy3⟩ := hc7 x11 hlt
    go_simp
    exact hK _ (.pointer (some ⟨b7, x11, none⟩)) _ rfl (Only.refl _ _) ⟨hG.1, by rw [hcu]; exact hG.2⟩ ⟨b7, x11, y, hb7, hz7, rfl, hy1, hy2, hy3⟩
  · intro L V W hV hG hL K hK
    dsimp only [dfrT] at hK ⊢
    have hcu : dfrC (updL L 13) = dfrC L := by simp only [dfrC, updL]; simp
    have h12 : SElem B 0 63 (V 12) W := hV 12 (by kernel_rfl)
    obtain ⟨b12, j12, y12, hb12, hz12, e12, hl12, hu12, hc12⟩ := h12
    rw [e12] at hK ⊢
    clear e12
    go_simp
    exact hK _ (.int .i64 y12) _ rfl (Only.refl _ _) ⟨hG.1, by rw [hcu]; exact hG.2⟩ ⟨y12, hl12, hu12, rfl⟩
  · intro L V W hV hG hL K hK
    dsimp only [dfrT] at hK ⊢
    have hcu : dfrC (updL L 14) = dfrC L := by simp only [dfrC, updL]; simp
    go_simp
    exact hK _ (.pointer (some ⟨g, 0, none⟩)) _ rfl (Only.refl _ _) ⟨hG.1, by rw [hcu]; exact hG.2⟩ rfl
  · intro L V W hV hG hL K hK
    dsimp only [dfrT] at hK ⊢
    have h14 : (V 14) = .pointer (some ⟨g, 0, none⟩) := hV 14 (by kernel_rfl)
    have e14 := h14
    rw [e14] at hK ⊢
    clear e14
    have hcb := dfrC_le L
    have hcu : dfrC (updL L 15) = dfrC L + 1 := by simp only [dfrC, updL, hL]; simp <;> omega
    go_simp
    refine (pickI (N + dfrC L) g 12 W (by omega) (by decide) (by decide) hG.2).mono ?_
    rintro e w1 ⟨v, hv, rfl, ho, hr⟩
    exact hK _ (.int .i64 (v : Int)) _ rfl ho ⟨hG.1.trans ho, hr.mono (by rw [hcu]; omega)⟩ ⟨v, by omega, rfl⟩
  · intro L V W hV hG hL K hK
    dsimp only [dfrT] at hK ⊢
    have hcu : dfrC (updL L 16) = dfrC L := by simp only [dfrC, updL]; simp
    go_simp
    exact hK _ (.pointer (some ⟨g, 0, none⟩)) _ rfl (Only.refl _ _) ⟨hG.1, by rw [hcu]; exact hG.2⟩ rfl
  · intro L V W hV hG hL K hK
    dsimp only [dfrT] at hK ⊢
    have h16 : (V 16) = .pointer (some ⟨g, 0, none⟩) := hV 16 (by kernel_rfl)
    have e16 := h16
    rw [e16] at hK ⊢
    clear e16
    have hcb := dfrC_le L
    have hcu : dfrC (updL L 17) = dfrC L + 1 := by simp only [dfrC, updL, hL]; simp <;> omega
    go_simp
    refine (pickI (N + dfrC L) g 256 W (by omega) (by decide) (by decide) hG.2).mono ?_
    rintro e w1 ⟨v, hv, rfl, ho, hr⟩
    exact hK _ (.int .i64 (v : Int)) _ rfl ho ⟨hG.1.trans ho, hr.mono (by rw [hcu]; omega)⟩ ⟨v, by omega, rfl⟩
  · intro L V W hV hG hL K hK
    dsimp only [dfrT] at hK ⊢
    have hcu : dfrC (updL L 18) = dfrC L := by simp only [dfrC, updL]; simp
    have h15 : SNat 11 (V 15) := hV 15 (by kernel_rfl)
    obtain ⟨x15, hx15, e15⟩ := h15
    have h17 : SNat 255 (V 17) := hV 17 (by kernel_rfl)
    obtain ⟨x17, hx17, e17⟩ := h17
    rw [e15, e17] at hK ⊢
    clear e15 e17
    go_simp
    exact hK _ (.slice (some ⟨W.heap.size, 0, none⟩) 3 3) _ rfl ((Only.refl _ _).alloc _) ⟨hG.1.alloc _, by rw [hcu]; exact rdA hG.2⟩ (SInts.new [(x15 : Int), (x17 : Int), 255] 3 rfl (Nat.le_trans (Nat.le_of_eq hB) hG.1.size) (by simp only [List.mem_cons, List.not_mem_nil, or_false, forall_eq_or_imp, forall_eq]; omega))
  · intro L V W hV hG hL K hK
    dsimp only [dfrT] at hK ⊢
    have hcu : dfrC (updL L 19) = dfrC L := by simp only [dfrC, updL]; simp
    go_simp
    exact hK _ (.pointer (some ⟨g, 0, none⟩)) _ rfl (Only.refl _ _) ⟨hG.1, by rw [hcu]; exact hG.2⟩ rfl
  · intro L V W hV hG hL K hK
    dsimp only [dfrT] at hK ⊢
    have h19 : (V 19) = .pointer (some ⟨g, 0, none⟩) := hV 19 (by kernel_rfl)
    have e19 := h19
    rw [e19] at hK ⊢
    clear e19
    have hcb := dfrC_le L
    have hcu : dfrC (updL L 20) = dfrC L + 1 := by simp only [dfrC, updL, hL]; simp <;> omega
    go_simp
    refine (pickI (N + dfrC L) g 3 W (by omega) (by decide) (by decide) hG.2).mono ?_
    rintro e w1 ⟨v, hv, rfl, ho, hr⟩
    exact hK _ (.int .i64 (v : Int)) _ rfl ho ⟨hG.1.trans ho, hr.mono (by rw [hcu]; omega)⟩ ⟨v, by omega, rfl⟩
  · intro L V W hV hG hL K hK
    dsimp only [dfrT] at hK ⊢
    have hcu : dfrC (updL L 21) = dfrC L := by simp only [dfrC, updL]; simp
    have h18 : SInts B 3 0 255 (V 18) W := hV 18 (by kernel_rfl)
    obtain ⟨b18, hb18, hz18, e18, hc18⟩ := h18
    have h20 : SNat 2 (V 20) := hV 20 (by kernel_rfl)
    obtain ⟨x20, hx20, e20⟩ := h20
    rw [e18, e20] at hK ⊢
    clear e18 e20
    have hlt : x20 < 3 := by omega
    have hlt2 : (x20 : Int) < 3 := by omega
    obtain ⟨y, hy1, hy2, hy3⟩ := hc18 x20 hlt
    go_simp
    exact hK _ (.pointer (some ⟨b18, x20, none⟩)) _ rfl (Only.refl _ _) ⟨hG.1, by rw [hcu]; exact hG.2⟩ ⟨b18, x20, y, hb18, hz18, rfl, hy1, hy2, hy3⟩
  · intro L V W hV hG hL K hK
    dsimp only [dfrT] at hK ⊢
    have hcu : dfrC (updL L 22) = dfrC L := by simp only [dfrC, updL]; simp
    have h21 : SElem B 0 255 (V 21) W := hV 21 (by kernel_rfl)
    obtain ⟨b21, j21, y21, hb21, hz21, e21, hl21, hu21, hc21⟩ := h21
    rw [e21] at hK ⊢
    clear e21
    go_simp
    exact hK _ (.int .i64 y21) _ rfl (Only.refl _ _) ⟨hG.1, by rw [hcu]; exact hG.2⟩ ⟨y21, hl21, hu21, rfl⟩
  · intro L V W hV hG hL K hK
    dsimp only [dfrT] at hK ⊢
    have hcu : dfrC (updL L 23) = dfrC L := by simp only [dfrC, updL]; simp
    go_simp
    exact hK _ (.pointer (some ⟨g, 0, none⟩)) _ rfl (Only.refl _ _) ⟨hG.1, by rw [hcu]; exact hG.2⟩ rfl
  · intro L V W hV hG hL K hK
    dsimp only [dfrT] at hK ⊢
    have h23 : (V 23) = .pointer (some ⟨g, 0, none⟩) := hV 23 (by kernel_rfl)
    have e23 := h23
    rw [e23] at hK ⊢
    clear e23
    have hcb := dfrC_le L
    have hcu : dfrC (updL L 24) = dfrC L + 61 := by simp only [dfrC, updL, hL]; simp <;> omega
    go_simp
    refine (l15Text_any (N + dfrC L) 20 g W (by omega) (by decide) hG.2).mono ?_
    rintro e w1 ⟨v, hv, rfl, ho, hr⟩
    exact hK _ (.string v) _ rfl ho ⟨hG.1.trans ho, hr.mono (by rw [hcu]; omega)⟩ ⟨v, hv, rfl⟩
  · intro L V W hV hG hL K hK
    dsimp only [dfrT] at hK ⊢
    have hcu : dfrC (updL L 25) = dfrC L := by simp only [dfrC, updL]; simp
    have h24 : SStr 20 (V 24) := hV 24 (by kernel_rfl)
    obtain ⟨x24, hx24, e24⟩ := h24
    rw [e24] at hK ⊢
    clear e24
    have hl0 : (⟨#[100]⟩ : ByteArray).size = 1 := rfl
    have hno : (9223372036854775807 < 1 + x24.size) = False := by simp; omega
    have hsz : (⟨#[100]⟩ ++ x24 : ByteArray).size ≤ 21 := by rw [ByteArray.size_append]; omega
    go_simp
    exact hK _ _ _ rfl (Only.refl _ _) ⟨hG.1, by rw [hcu]; exact hG.2⟩ ⟨⟨#[100]⟩ ++ x24, hsz, rfl⟩
  · intro L V W hV hG hL K hK
    dsimp only [dfrT] at hK ⊢
    have hcu : dfrC (updL L 26) = dfrC L := by simp only [dfrC, updL]; simp
    have h6 : SInt 0 1023 (V 6) := hV 6 (by kernel_rfl)
    obtain ⟨x6, hx6, hy6, e6⟩ := h6
    have h13 : SInt 0 63 (V 13) := hV 13 (by kernel_rfl)
    obtain ⟨x13, hx13, hy13, e13⟩ := h13
    have h22 : SInt 0 255 (V 22) := hV 22 (by kernel_rfl)
    obtain ⟨x22, hx22, hy22, e22⟩ := h22
    have h25 : SStr 21 (V 25) := hV 25 (by kernel_rfl)
    obtain ⟨x25, hx25, e25⟩ := h25
    rw [e6, e13, e22, e25] at hK ⊢
    clear e6 e13 e22 e25
    go_simp
    exact hK _ _ _ rfl (Only.refl _ _) ⟨hG.1, by rw [hcu]; exact hG.2⟩ ⟨x6, x13, x22, x25, by first | omega | simp, by first | omega | simp, by first | omega | simp, by first | omega | simp, by first | omega | simp, by first | omega | simp, by first | omega | simp, rfl⟩
  · intro L V W hV hG hL K hK
    dsimp only [dfrT] at hK ⊢
    have hcu : dfrC (updL L 27) = dfrC L := by simp only [dfrC, updL]; simp
    go_simp
    exact hK _ (.pointer (some ⟨W.heap.size, 0, none⟩)) _ rfl ((Only.refl _ _).alloc _) ⟨hG.1.alloc _, by rw [hcu]; exact rdA hG.2⟩ ⟨W.heap.size, (Nat.le_trans (Nat.le_of_eq hB) hG.1.size), rfl, get_new rfl⟩
  · intro L V W hZ hL K hK
    obtain ⟨HO, HR', b, c, v, q, d, hb, hc0, hc1, hv0, hv1, hq0, hq1, hd, e27, e26, hF⟩ := hZ
    rw [hL] at hF
    dsimp only [cond] at hF
    dsimp only [dfrT] at hK ⊢
    rw [e27, e26] at hK ⊢
    obtain ⟨j0, j1, j2, j3, j4, j5⟩ := cells6_of hF
    have f1 : ∀ j, W.frozen? ⟨b, j, none⟩ = false := fun j => frozen_get hF
    have hBw : wr.heap.size ≤ b := by omega
    have hgb : g < b := by omega
    go_simp
    refine hK _ undef _ rfl ⟨?_, ?_, b, c, v, q, d, hb, hc0, hc1, hv0, hv1, hq0, hq1, hd, e27, e26, ?_⟩
    · exact onlyS (onlyS (onlyS (onlyS (onlyS (onlyS HO hBw) hBw) hBw) hBw) hBw) hBw
    · exact rdS (rdS (rdS (rdS (rdS (rdS HR' hgb) hgb) hgb) hgb) hgb) hgb
    · exact get_set (get_set (get_set (get_set (get_set (get_set hF rfl) rfl) rfl) rfl) rfl) rfl
end Go.Proofs.YtlifigpkjbnkhaaDoor
