/- The contract of spec.l15Down. -/
import Derived.Test.YtccpdadabndleaaDoorDrX
import Derived.Test.YtccpdadabndleaaDoorDnQ
namespace Go.Proofs.YtccpdadabndleaaDoor
open Go.ChangeShapes Go.WideShapes Go.ChangeAt Go.RowKit
set_option linter.unusedVariables false
theorem cells_ddn : (Tryd.prog.info? 54).map (·.size) = some 7 := by kernel_rfl
theorem faPut_le (s wt ag : Bool) (c n : Int) : (faPut s wt ag c n).size ≤ 4 := by
  unfold faPut
  split
  · exact Nat.le_refl 4
  · exact Nat.zero_le _
def ddnT (g r : Nat) (V : Nat → Value) : Act := { tmps := #[.pointer (some ⟨g, 0, none⟩), undef, .pointer (some ⟨r, 0, none⟩), V 0, V 1, V 2, V 3, V 4, V 5, V 6, V 7, V 8, V 9, V 10, V 11, V 12, V 13, V 14, V 15, V 16, V 17, V 18, V 19, V 20, V 21, V 22], defers := [] }
def ddnC (L : Nat → Bool) : Nat := (L 1).toNat + (L 3).toNat + (L 6).toNat + (L 8).toNat + (L 11).toNat + (L 13).toNat + 85 * (L 15).toNat + 8 * (L 20).toNat
theorem ddnC_le (L : Nat → Bool) : ddnC L ≤ 99 := by
  have h1 := Bool.toNat_le (L 1)
  have h3 := Bool.toNat_le (L 3)
  have h6 := Bool.toNat_le (L 6)
  have h8 := Bool.toNat_le (L 8)
  have h11 := Bool.toNat_le (L 11)
  have h13 := Bool.toNat_le (L 13)
  have h15 := Bool.toNat_le (L 15)
  have h20 := Bool.toNat_le (L 20)
  simp only [ddnC]
  omega
def ddnS (g base : Nat) : Nat → Value → World → Prop
  | 0, v, w => v = .pointer (some ⟨g, 0, none⟩)
  | 1, v, w => SNat 3 v
  | 2, v, w => v = .pointer (some ⟨g, 0, none⟩)
  | 3, v, w => SNat 255 v
  | 4, v, w => v = .pointer (some ⟨g, 0, none⟩)
  | 5, v, w => v = .pointer (some ⟨g, 0, none⟩)
  | 6, v, w => SNat 5 v
  | 7, v, w => SInts base 2 0 255 v w
  | 8, v, w => SInt 0 255 v
  | 9, v, w => v = .pointer (some ⟨g, 0, none⟩)
  | 10, v, w => v = .pointer (some ⟨g, 0, none⟩)
  | 11, v, w => SNat 27 v
  | 12, v, w => SInts base 4 0 2047 v w
  | 13, v, w => SInt 0 2047 v
  | 14, v, w => v = .pointer (some ⟨g, 0, none⟩)
  | 15, v, w => SStr 28 v
  | 16, v, w => ∃ s : ByteArray, 28 ≤ s.size ∧ s.size ≤ 28 ∧ v = .string s
  | 17, v, w => ∃ s : ByteArray, 28 ≤ s.size ∧ s.size ≤ 56 ∧ v = .string s
  | 18, v, w => ∃ s : ByteArray, 28 ≤ s.size ∧ s.size ≤ 28 ∧ v = .string s
  | 19, v, w => v = .pointer (some ⟨g, 0, none⟩)
  | 20, v, w => ∃ (s wt ag : Bool) (c n : Int), v = .agg #[.bool s, .bool wt, .bool ag, .int .i64 c, .int .i64 n]
  | 21, v, w => SStr 4 v
  | 22, v, w => ∃ (x0 : Int) (x1 : Int) (x2 : Int) (x3 : Int) (x4 : Int) (x5 : ByteArray) (x6 : ByteArray), 0 ≤ x0 ∧ x0 ≤ 5 ∧ 0 ≤ x1 ∧ x1 ≤ 3 ∧ 0 ≤ x2 ∧ x2 ≤ 255 ∧ 0 ≤ x3 ∧ x3 ≤ 255 ∧ 0 ≤ x4 ∧ x4 ≤ 2047 ∧ 28 ≤ x5.size ∧ x5.size ≤ 28 ∧ x6.size ≤ 4 ∧ v = .agg #[.int .i64 x0, .int .i64 x1, .int .i64 x2, .int .i64 x3, .int .i64 x4, .string x5, .string x6]
  | _, _, _ => True
theorem ddnS_keep {g base : Nat} (hg : g < base) : ∀ (j : Nat) (v : Value) (w w' : World), Only g w w' → ddnS g base j v w → ddnS g base j v w' := by
  intro j v w w' h s
  match j, s with
  | 0, s => exact s
  | 1, s => exact s
  | 2, s => exact s
  | 3, s => exact s
  | 4, s => exact s
  | 5, s => exact s
  | 6, s => exact s
  | 7, s => exact SInts.keep hg h s
  | 8, s => exact s
  | 9, s => exact s
  | 10, s => exact s
  | 11, s => exact s
  | 12, s => exact SInts.keep hg h s
  | 13, s => exact s
  | 14, s => exact s
  | 15, s => exact s
  | 16, s => exact s
  | 17, s => exact s
  | 18, s => exact s
  | 19, s => exact s
  | 20, s => exact s
  | 21, s => exact s
  | 22, s => exact s
  | 23, s => trivial
  | _ + 24, s => trivial
def ddnZ (N g : Nat) (w : World) (L : Nat → Bool) (V : Nat → Value) (W : World) : Prop := Only g w W ∧ Rd (N + 99) W g ∧ ∃ (x0 : Int) (x1 : Int) (x2 : Int) (x3 : Int) (x4 : Int) (x5 : ByteArray) (x6 : ByteArray), 0 ≤ x0 ∧ x0 ≤ 5 ∧ 0 ≤ x1 ∧ x1 ≤ 3 ∧ 0 ≤ x2 ∧ x2 ≤ 255 ∧ 0 ≤ x3 ∧ x3 ≤ 255 ∧ 0 ≤ x4 ∧ x4 ≤ 2047 ∧ 28 ≤ x5.size ∧ x5.size ≤ 28 ∧ x6.size ≤ 4 ∧ V 22 = .agg #[.int .i64 x0, .int .i64 x1, .int .i64 x2, .int .i64 x3, .int .i64 x4, .string x5, .string x6] ∧ W.heap[w.heap.size]? = some (.cells (cond (L 23) #[.int .i64 x0, .int .i64 x1, .int .i64 x2, .int .i64 x3, .int .i64 x4, .string x5, .string x6] #[.int .i64 0, .int .i64 0, .int .i64 0, .int .i64 0, .int .i64 0, .string ⟨#[]⟩, .string ⟨#[]⟩]) 54)
set_option maxRecDepth 100000 in
set_option maxHeartbeats 1000000 in
theorem l15Down_any (N g : Nat) (w : World) (hN : N ≤ 400000) (hr : Rd N w g) :
    Calls Tryd.prog 92 #[.pointer (some ⟨g, 0, none⟩)] w fun e w' => ∃ (x0 : Int) (x1 : Int) (x2 : Int) (x3 : Int) (x4 : Int) (x5 : ByteArray) (x6 : ByteArray), 0 ≤ x0 ∧ x0 ≤ 5 ∧ 0 ≤ x1 ∧ x1 ≤ 3 ∧ 0 ≤ x2 ∧ x2 ≤ 255 ∧ 0 ≤ x3 ∧ x3 ≤ 255 ∧ 0 ≤ x4 ∧ x4 ≤ 2047 ∧ 28 ≤ x5.size ∧ x5.size ≤ 28 ∧ x6.size ≤ 4 ∧ e = .returned (.agg #[.int .i64 x0, .int .i64 x1, .int .i64 x2, .int .i64 x3, .int .i64 x4, .string x5, .string x6]) ∧ Only g w w' ∧ Rd (N + 99) w' g := by
  have hg := hr.lt
  have HR : Hid (Rd N (w.alloc (.cells #[.int .i64 0, .int .i64 0, .int .i64 0, .int .i64 0, .int .i64 0, .string ⟨#[]⟩, .string ⟨#[]⟩] 54)) g) := rdA hr
  clear hr
  go_enter Tryd.func92, Tryd.ntmps92
  go_wp2_with fail
  generalize hwr : w.alloc (.cells #[.int .i64 0, .int .i64 0, .int .i64 0, .int .i64 0, .int .i64 0, .string ⟨#[]⟩, .string ⟨#[]⟩] 54) = wr at *
  have hwz : wr.heap.size = w.heap.size + 1 := by rw [← hwr]; simp
  have HG0 : Hid (wr.heap[w.heap.size]? = some (.cells #[.int .i64 0, .int .i64 0, .int .i64 0, .int .i64 0, .int .i64 0, .string ⟨#[]⟩, .string ⟨#[]⟩] 54)) := by rw [← hwr]; exact get_new rfl
  have HW0 : Hid (Only g w wr) := by rw [← hwr]; exact (Only.refl _ _).alloc _
  clear hwr
  obtain ⟨B, hB⟩ : ∃ B, B = wr.heap.size := ⟨_, rfl⟩
  have hgB : g < B := by omega
  refine wp_region_slots (by kernel_rfl) (fun j => j == 23) (Only g) (ddnS g B) (ddnT g w.heap.size) (fun L W => Only g wr W ∧ Rd (N + ddnC L) W g) (ddnZ N g w) _ (by kernel_rfl) (by kernel_rfl) (ddnS_keep hgB) (fun _ => undef) _ rfl ?_ ⟨(Only.refl _ _).drew, HR.out.below ((Below.refl _ _).drew)⟩ ?_ ?_ ?_
  · exact StepAll.cons (fun V v => rfl) (StepAll.cons (fun V v => rfl) (StepAll.cons (fun V v => rfl) (StepAll.cons (fun V v => rfl) (StepAll.cons (fun V v => rfl) (StepAll.cons (fun V v => rfl) (StepAll.cons (fun V v => rfl) (StepAll.cons (fun V v => rfl) (StepAll.cons (fun V v => rfl) (StepAll.cons (fun V v => rfl) (StepAll.cons (fun V v => rfl) (StepAll.cons (fun V v => rfl) (StepAll.cons (fun V v => rfl) (StepAll.cons (fun V v => rfl) (StepAll.cons (fun V v => rfl) (StepAll.cons (fun V v => rfl) (StepAll.cons (fun V v => rfl) (StepAll.cons (fun V v => rfl) (StepAll.cons (fun V v => rfl) (StepAll.cons (fun V v => rfl) (StepAll.cons (fun V v => rfl) (StepAll.cons (fun V v => rfl) (StepAll.cons (fun V v => rfl) (StepAll.cons (fun V v => rfl) StepAll.nil)))))))))))))))))))))))
  · intro L V W hS hnf hG
    obtain ⟨x0, x1, x2, x3, x4, x5, x6, a0, a1, a2, a3, a4, a5, a6, a7, a8, a9, a10, a11, a12, eV⟩ : ∃ (x0 : Int) (x1 : Int) (x2 : Int) (x3 : Int) (x4 : Int) (x5 : ByteArray) (x6 : ByteArray), 0 ≤ x0 ∧ x0 ≤ 5 ∧ 0 ≤ x1 ∧ x1 ≤ 3 ∧ 0 ≤ x2 ∧ x2 ≤ 255 ∧ 0 ≤ x3 ∧ x3 ≤ 255 ∧ 0 ≤ x4 ∧ x4 ≤ 2047 ∧ 28 ≤ x5.size ∧ x5.size ≤ 28 ∧ x6.size ≤ 4 ∧ (V 22) = .agg #[.int .i64 x0, .int .i64 x1, .int .i64 x2, .int .i64 x3, .int .i64 x4, .string x5, .string x6] := (hS 22 (by decide) rfl).1
    have hF : L 23 = false := hnf 23 (by decide) rfl
    have hC : ddnC L = 99 := by simp only [ddnC, (hS 1 (by decide) rfl).2, (hS 3 (by decide) rfl).2, (hS 6 (by decide) rfl).2, (hS 8 (by decide) rfl).2, (hS 11 (by decide) rfl).2, (hS 13 (by decide) rfl).2, (hS 15 (by decide) rfl).2, (hS 20 (by decide) rfl).2]; rfl
    exact ⟨HW0.out.trans hG.1, by have := hG.2; rw [hC] at this; exact this, x0, x1, x2, x3, x4, x5, x6, a0, a1, a2, a3, a4, a5, a6, a7, a8, a9, a10, a11, a12, eV, by rw [hF]; exact get_only hG.1 HG0.out (by omega)⟩
  · intro L V W hZ hall
    obtain ⟨HO, HR', x0, x1, x2, x3, x4, x5, x6, a0, a1, a2, a3, a4, a5, a6, a7, a8, a9, a10, a11, a12, eV, hf⟩ := hZ
    rw [hall 23 (by decide)] at hf
    dsimp only [cond] at hf
    dsimp only [ddnT]
    rw [eV]
    have HF : Hid _ := hf
    clear hf eV hall HG0 HW0
    go_wp2_with fail
    exact bodyPost_ret (v := .agg #[.int .i64 x0, .int .i64 x1, .int .i64 x2, .int .i64 x3, .int .i64 x4, .string x5, .string x6]) (results_cell_row Tryd.results92 _ _ w.heap.size 54 #[.int .i64 x0, .int .i64 x1, .int .i64 x2, .int .i64 x3, .int .i64 x4, .string x5, .string x6] (0, 0) _ rfl HF.out Tryd.underlying54 rfl cells_ddn) rfl ⟨x0, x1, x2, x3, x4, x5, x6, a0, a1, a2, a3, a4, a5, a6, a7, a8, a9, a10, a11, a12, rfl, HO, HR'⟩
  refine stepN rfl rfl ?_ (stepN rfl rfl ?_ (stepN rfl rfl ?_ (stepN rfl rfl ?_ (stepN rfl rfl ?_ (stepN rfl rfl ?_ (stepN rfl rfl ?_ (stepN rfl rfl ?_ (stepN rfl rfl ?_ (stepN rfl rfl ?_ (stepN rfl rfl ?_ (stepN rfl rfl ?_ (stepN rfl rfl ?_ (stepN rfl rfl ?_ (stepN rfl rfl ?_ (stepN rfl rfl ?_ (stepN rfl rfl ?_ (stepN rfl rfl ?_ (stepN rfl rfl ?_ (stepN rfl rfl ?_ (stepN rfl rfl ?_ (stepN rfl rfl ?_ (stepN rfl rfl ?_ (stepF rfl rfl ?_ (StepAll.nil))))))))))))))))))))))))
  · intro L V W hV hG hL K hK
    dsimp only [ddnT] at hK ⊢
    have hcu : ddnC (updL L 0) = ddnC L := by simp only [ddnC, updL]; simp
    go_simp
    exact hK _ (.pointer (some ⟨g, 0, none⟩)) _ rfl (Only.refl _ _) ⟨hG.1, by rw [hcu]; exact hG.2⟩ rfl
  · intro L V W hV hG hL K hK
    dsimp only [ddnT] at hK ⊢
    have h0 : (V 0) = .pointer (some ⟨g, 0, none⟩) := hV 0 (by kernel_rfl)
    have e0 := h0
    rw [e0] at hK ⊢
    clear e0
    have hcb := ddnC_le L
    have hcu : ddnC (updL L 1) = ddnC L + 1 := by simp only [ddnC, updL, hL]; simp <;> omega
    go_simp
    refine (pickI (N + ddnC L) g 4 W (by omega) (by decide) (by decide) hG.2).mono ?_
    rintro e w1 ⟨v, hv, rfl, ho, hr⟩
    exact hK _ (.int .i64 (v : Int)) _ rfl ho ⟨hG.1.trans ho, hr.mono (by rw [hcu]; omega)⟩ ⟨v, by omega, rfl⟩
  · intro L V W hV hG hL K hK
    dsimp only [ddnT] at hK ⊢
    have hcu : ddnC (updL L 2) = ddnC L := by simp only [ddnC, updL]; simp
    go_simp
    exact hK _ (.pointer (some ⟨g, 0, none⟩)) _ rfl (Only.refl _ _) ⟨hG.1, by rw [hcu]; exact hG.2⟩ rfl
  · intro L V W hV hG hL K hK
    dsimp only [ddnT] at hK ⊢
    have h2 : (V 2) = .pointer (some ⟨g, 0, none⟩) := hV 2 (by kernel_rfl)
    have e2 := h2
    rw [e2] at hK ⊢
    clear e2
    have hcb := ddnC_le L
    have hcu : ddnC (updL L 3) = ddnC L + 1 := by simp only [ddnC, updL, hL]; simp <;> omega
    go_simp
    refine (pickI (N + ddnC L) g 256 W (by omega) (by decide) (by decide) hG.2).mono ?_
    rintro e w1 ⟨v, hv, rfl, ho, hr⟩
    exact hK _ (.int .i64 (v : Int)) _ rfl ho ⟨hG.1.trans ho, hr.mono (by rw [hcu]; omega)⟩ ⟨v, by omega, rfl⟩
  · intro L V W hV hG hL K hK
    dsimp only [ddnT] at hK ⊢
    have hcu : ddnC (updL L 4) = ddnC L := by simp only [ddnC, updL]; simp
    go_simp
    exact hK _ (.pointer (some ⟨g, 0, none⟩)) _ rfl (Only.refl _ _) ⟨hG.1, by rw [hcu]; exact hG.2⟩ rfl
  · intro L V W hV hG hL K hK
    dsimp only [ddnT] at hK ⊢
    have hcu : ddnC (updL L 5) = ddnC L := by simp only [ddnC, updL]; simp
    go_simp
    exact hK _ (.pointer (some ⟨g, 0, none⟩)) _ rfl (Only.refl _ _) ⟨hG.1, by rw [hcu]; exact hG.2⟩ rfl
  · intro L V W hV hG hL K hK
    dsimp only [ddnT] at hK ⊢
    have h5 : (V 5) = .pointer (some ⟨g, 0, none⟩) := hV 5 (by kernel_rfl)
    have e5 := h5
    rw [e5] at hK ⊢
    clear e5
    have hcb := ddnC_le L
    have hcu : ddnC (updL L 6) = ddnC L + 1 := by simp only [ddnC, updL, hL]; simp <;> omega
    go_simp
    refine (pickI (N + ddnC L) g 6 W (by omega) (by decide) (by decide) hG.2).mono ?_
    rintro e w1 ⟨v, hv, rfl, ho, hr⟩
    exact hK _ (.int .i64 (v : Int)) _ rfl ho ⟨hG.1.trans ho, hr.mono (by rw [hcu]; omega)⟩ ⟨v, by omega, rfl⟩
  · intro L V W hV hG hL K hK
    dsimp only [ddnT] at hK ⊢
    have hcu : ddnC (updL L 7) = ddnC L := by simp only [ddnC, updL]; simp
    have h6 : SNat 5 (V 6) := hV 6 (by kernel_rfl)
    obtain ⟨x6, hx6, e6⟩ := h6
    rw [e6] at hK ⊢
    clear e6
    go_simp
    exact hK _ (.slice (some ⟨W.heap.size, 0, none⟩) 2 2) _ rfl ((Only.refl _ _).alloc _) ⟨hG.1.alloc _, by rw [hcu]; exact rdA hG.2⟩ (SInts.new [(x6 : Int), 255] 2 rfl (Nat.le_trans (Nat.le_of_eq hB) hG.1.size) (by simp only [List.mem_cons, List.not_mem_nil, or_false, forall_eq_or_imp, forall_eq]; omega))
  · intro L V W hV hG hL K hK
    dsimp only [ddnT] at hK ⊢
    have h4 : (V 4) = .pointer (some ⟨g, 0, none⟩) := hV 4 (by kernel_rfl)
    have e4 := h4
    have h7 : SInts B 2 0 255 (V 7) W := hV 7 (by kernel_rfl)
    obtain ⟨b7, hb7, hz7, e7, hc7⟩ := h7
    rw [e4, e7] at hK ⊢
    clear e4 e7
    have hcb := ddnC_le L
    have hcu : ddnC (updL L 8) = ddnC L + 1 := by simp only [ddnC, updL, hL]; simp <;> omega
    go_simp
    refine (one_in (N + ddnC L) 2 0 255 (by omega) (by decide) (by decide) hG.2 hgB b7 hb7 hc7).mono ?_
    rintro e w1 ⟨v, hv1, hv2, rfl, ho, hr⟩
    exact hK _ (.int .i64 v) _ rfl ho ⟨hG.1.trans ho, hr.mono (by rw [hcu]; omega)⟩ ⟨v, hv1, hv2, rfl⟩
  · intro L V W hV hG hL K hK
    dsimp only [ddnT] at hK ⊢
    have hcu : ddnC (updL L 9) = ddnC L := by simp only [ddnC, updL]; simp
    go_simp
    exact hK _ (.pointer (some ⟨g, 0, none⟩)) _ rfl (Only.refl _ _) ⟨hG.1, by rw [hcu]; exact hG.2⟩ rfl
  · intro L V W hV hG hL K hK
    dsimp only [ddnT] at hK ⊢
    have hcu : ddnC (updL L 10) = ddnC L := by simp only [ddnC, updL]; simp
    go_simp
    exact hK _ (.pointer (some ⟨g, 0, none⟩)) _ rfl (Only.refl _ _) ⟨hG.1, by rw [hcu]; exact hG.2⟩ rfl
  · intro L V W hV hG hL K hK
    dsimp only [ddnT] at hK ⊢
    have h10 : (V 10) = .pointer (some ⟨g, 0, none⟩) := hV 10 (by kernel_rfl)
    have e10 := h10
    rw [e10] at hK ⊢
    clear e10
    have hcb := ddnC_le L
    have hcu : ddnC (updL L 11) = ddnC L + 1 := by simp only [ddnC, updL, hL]; simp <;> omega
    go_simp
    refine (pickI (N + ddnC L) g 28 W (by omega) (by decide) (by decide) hG.2).mono ?_
    rintro e w1 ⟨v, hv, rfl, ho, hr⟩
    exact hK _ (.int .i64 (v : Int)) _ rfl ho ⟨hG.1.trans ho, hr.mono (by rw [hcu]; omega)⟩ ⟨v, by omega, rfl⟩
  · intro L V W hV hG hL K hK
    dsimp only [ddnT] at hK ⊢
    have hcu : ddnC (updL L 12) = ddnC L := by simp only [ddnC, updL]; simp
    have h11 : SNat 27 (V 11) := hV 11 (by kernel_rfl)
    obtain ⟨x11, hx11, e11⟩ := h11
    rw [e11] at hK ⊢
    clear e11
    go_simp
    exact hK _ (.slice (some ⟨W.heap.size, 0, none⟩) 4 4) _ rfl ((Only.refl _ _).alloc _) ⟨hG.1.alloc _, by rw [hcu]; exact rdA hG.2⟩ (SInts.new [0, (x11 : Int), 2047, 2046] 4 rfl (Nat.le_trans (Nat.le_of_eq hB) hG.1.size) (by simp only [List.mem_cons, List.not_mem_nil, or_false, forall_eq_or_imp, forall_eq]; omega))
  · intro L V W hV hG hL K hK
    dsimp only [ddnT] at hK ⊢
    have h9 : (V 9) = .pointer (some ⟨g, 0, none⟩) := hV 9 (by kernel_rfl)
    have e9 := h9
    have h12 : SInts B 4 0 2047 (V 12) W := hV 12 (by kernel_rfl)
    obtain ⟨b12, hb12, hz12, e12, hc12⟩ := h12
    rw [e9, e12] at hK ⊢
    clear e9 e12
    have hcb := ddnC_le L
    have hcu : ddnC (updL L 13) = ddnC L + 1 := by simp only [ddnC, updL, hL]; simp <;> omega
    go_simp
    refine (one_in (N + ddnC L) 4 0 2047 (by omega) (by decide) (by decide) hG.2 hgB b12 hb12 hc12).mono ?_
    rintro e w1 ⟨v, hv1, hv2, rfl, ho, hr⟩
    exact hK _ (.int .i64 v) _ rfl ho ⟨hG.1.trans ho, hr.mono (by rw [hcu]; omega)⟩ ⟨v, hv1, hv2, rfl⟩
  · intro L V W hV hG hL K hK
    dsimp only [ddnT] at hK ⊢
    have hcu : ddnC (updL L 14) = ddnC L := by simp only [ddnC, updL]; simp
    go_simp
    exact hK _ (.pointer (some ⟨g, 0, none⟩)) _ rfl (Only.refl _ _) ⟨hG.1, by rw [hcu]; exact hG.2⟩ rfl
  · intro L V W hV hG hL K hK
    dsimp only [ddnT] at hK ⊢
    have h14 : (V 14) = .pointer (some ⟨g, 0, none⟩) := hV 14 (by kernel_rfl)
    have e14 := h14
    rw [e14] at hK ⊢
    clear e14
    have hcb := ddnC_le L
    have hcu : ddnC (updL L 15) = ddnC L + 85 := by simp only [ddnC, updL, hL]; simp <;> omega
    go_simp
    refine (l15Text_any (N + ddnC L) 28 g W (by omega) (by decide) hG.2).mono ?_
    rintro e w1 ⟨v, hv, rfl, ho, hr⟩
    exact hK _ (.string v) _ rfl ho ⟨hG.1.trans ho, hr.mono (by rw [hcu]; omega)⟩ ⟨v, hv, rfl⟩
  · intro L V W hV hG hL K hK
    dsimp only [ddnT] at hK ⊢
    have hcu : ddnC (updL L 16) = ddnC L := by simp only [ddnC, updL]; simp
    go_simp
    refine (l1ManyE ⟨#[122]⟩ 28 W (by decide) (by decide) (by decide)).mono ?_
    rintro e w1 ⟨v, hv, rfl, hb⟩
    have hv' : v.size = 28 := hv.trans (by decide)
    exact hK _ (.string v) _ rfl (Only.of_below hb) ⟨hG.1.trans (Only.of_below hb), by rw [hcu]; exact hG.2.below hb⟩ ⟨v, by omega, by omega, rfl⟩
  · intro L V W hV hG hL K hK
    dsimp only [ddnT] at hK ⊢
    have hcu : ddnC (updL L 17) = ddnC L := by simp only [ddnC, updL]; simp
    have h15 : SStr 28 (V 15) := hV 15 (by kernel_rfl)
    obtain ⟨x15, hx15, e15⟩ := h15
    rw [e15] at hK ⊢
    clear e15
    have h16 : ∃ s : ByteArray, 28 ≤ s.size ∧ s.size ≤ 28 ∧ (V 16) = .string s := hV 16 (by kernel_rfl)
    obtain ⟨x16, hl16, hx16, e16⟩ := h16
    rw [e16] at hK ⊢
    clear e16
    have hno : (9223372036854775807 < x15.size + x16.size) = False := by simp; omega
    have hsz : (x15 ++ x16 : ByteArray).size = x15.size + x16.size := ByteArray.size_append
    go_simp
    exact hK _ _ _ rfl (Only.refl _ _) ⟨hG.1, by rw [hcu]; exact hG.2⟩ ⟨x15 ++ x16, by omega, by omega, rfl⟩
  · intro L V W hV hG hL K hK
    dsimp only [ddnT] at hK ⊢
    have hcu : ddnC (updL L 18) = ddnC L := by simp only [ddnC, updL]; simp
    have h17 : ∃ s : ByteArray, 28 ≤ s.size ∧ s.size ≤ 56 ∧ (V 17) = .string s := hV 17 (by kernel_rfl)
    obtain ⟨x17, hl17, hx17, e17⟩ := h17
    rw [e17] at hK ⊢
    clear e17
    have hi1 : (28 : Int) ≤ (x17.size : Int) := by omega
    go_simp
    exact hK _ (.string (x17.extract 0 28)) _ rfl (Only.refl _ _) ⟨hG.1, by rw [hcu]; exact hG.2⟩ ⟨x17.extract 0 28, by rw [ByteArray.size_extract]; omega, by rw [ByteArray.size_extract]; omega, rfl⟩
  · intro L V W hV hG hL K hK
    dsimp only [ddnT] at hK ⊢
    have hcu : ddnC (updL L 19) = ddnC L := by simp only [ddnC, updL]; simp
    go_simp
    exact hK _ (.pointer (some ⟨g, 0, none⟩)) _ rfl (Only.refl _ _) ⟨hG.1, by rw [hcu]; exact hG.2⟩ rfl
  · intro L V W hV hG hL K hK
    dsimp only [ddnT] at hK ⊢
    have h19 : (V 19) = .pointer (some ⟨g, 0, none⟩) := hV 19 (by kernel_rfl)
    have e19 := h19
    rw [e19] at hK ⊢
    clear e19
    have hcb := ddnC_le L
    have hcu : ddnC (updL L 20) = ddnC L + 8 := by simp only [ddnC, updL, hL]; simp <;> omega
    go_simp
    refine (l15Farm_any (N + ddnC L) g W (by omega) hG.2).mono ?_
    rintro e w1 ⟨fs, fw, fa, fc, fn, _, _, rfl, ho, hr⟩
    exact hK _ (.agg #[.bool fs, .bool fw, .bool fa, .int .i64 fc, .int .i64 fn]) _ rfl ho ⟨hG.1.trans ho, hr.mono (by rw [hcu]; omega)⟩ ⟨fs, fw, fa, fc, fn, rfl⟩
  · intro L V W hV hG hL K hK
    dsimp only [ddnT] at hK ⊢
    have hcu : ddnC (updL L 21) = ddnC L := by simp only [ddnC, updL]; simp
    have h20 : ∃ (s wt ag : Bool) (c n : Int), (V 20) = .agg #[.bool s, .bool wt, .bool ag, .int .i64 c, .int .i64 n] := hV 20 (by kernel_rfl)
    obtain ⟨fs20, fw20, fa20, fc20, fn20, e20⟩ := h20
    rw [e20] at hK ⊢
    clear e20
    go_simp
    refine (specFarmPut_any fs20 fw20 fa20 fc20 fn20 W).mono ?_
    rintro e w1 ⟨rfl, hb⟩
    exact hK _ (.string (faPut fs20 fw20 fa20 fc20 fn20)) _ rfl (Only.of_below hb) ⟨hG.1.trans (Only.of_below hb), by rw [hcu]; exact hG.2.below hb⟩ ⟨_, faPut_le _ _ _ _ _, rfl⟩
  · intro L V W hV hG hL K hK
    dsimp only [ddnT] at hK ⊢
    have hcu : ddnC (updL L 22) = ddnC L := by simp only [ddnC, updL]; simp
    have h1 : SNat 3 (V 1) := hV 1 (by kernel_rfl)
    obtain ⟨x1, hx1, e1⟩ := h1
    have h3 : SNat 255 (V 3) := hV 3 (by kernel_rfl)
    obtain ⟨x3, hx3, e3⟩ := h3
    have h8 : SInt 0 255 (V 8) := hV 8 (by kernel_rfl)
    obtain ⟨x8, hx8, hy8, e8⟩ := h8
    have h13 : SInt 0 2047 (V 13) := hV 13 (by kernel_rfl)
    obtain ⟨x13, hx13, hy13, e13⟩ := h13
    have h21 : SStr 4 (V 21) := hV 21 (by kernel_rfl)
    obtain ⟨x21, hx21, e21⟩ := h21
    rw [e1, e3, e8, e13, e21] at hK ⊢
    clear e1 e3 e8 e13 e21
    have h18 : ∃ s : ByteArray, 28 ≤ s.size ∧ s.size ≤ 28 ∧ (V 18) = .string s := hV 18 (by kernel_rfl)
    obtain ⟨x18, hl18, hx18, e18⟩ := h18
    rw [e18] at hK ⊢
    clear e18
    go_simp
    exact hK _ _ _ rfl (Only.refl _ _) ⟨hG.1, by rw [hcu]; exact hG.2⟩ ⟨5, (x1 : Int), (x3 : Int), x8, x13, x18, x21, by first | omega | simp, by first | omega | simp, by first | omega | simp, by first | omega | simp, by first | omega | simp, by first | omega | simp, by first | omega | simp, by first | omega | simp, by first | omega | simp, by first | omega | simp, by first | omega | simp, by first | omega | simp, by first | omega | simp, rfl⟩
  · intro L V W hZ hL K hK
    obtain ⟨HO, HR', x0, x1, x2, x3, x4, x5, x6, a0, a1, a2, a3, a4, a5, a6, a7, a8, a9, a10, a11, a12, eV, hF⟩ := hZ
    rw [hL] at hF
    dsimp only [cond] at hF
    dsimp only [ddnT] at hK ⊢
    rw [eV] at hK ⊢
    obtain ⟨j0, j1, j2, j3, j4, j5, j6⟩ := cells7_of hF
    have f1 : ∀ j, W.frozen? ⟨w.heap.size, j, none⟩ = false := fun j => frozen_get hF
    go_simp
    exact hK _ undef _ rfl ⟨onlyS (onlyS (onlyS (onlyS (onlyS (onlyS (onlyS (HO) (Nat.le_refl _)) (Nat.le_refl _)) (Nat.le_refl _)) (Nat.le_refl _)) (Nat.le_refl _)) (Nat.le_refl _)) (Nat.le_refl _), rdS (rdS (rdS (rdS (rdS (rdS (rdS (HR') hg) hg) hg) hg) hg) hg) hg, x0, x1, x2, x3, x4, x5, x6, a0, a1, a2, a3, a4, a5, a6, a7, a8, a9, a10, a11, a12, eV, get_set (get_set (get_set (get_set (get_set (get_set (get_set (hF) rfl) rfl) rfl) rfl) rfl) rfl) rfl⟩
end Go.Proofs.YtccpdadabndleaaDoor
