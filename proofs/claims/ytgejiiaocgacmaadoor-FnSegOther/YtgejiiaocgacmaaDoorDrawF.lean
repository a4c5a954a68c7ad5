/- The contracts of the reader's one and of, and of spec.l15Farm, spec.l15AnyFarm. -/
import Derived.Test.YtgejiiaocgacmaaDoorDrawT
import Derived.Test.YtgejiiaocgacmaaDoorKeep
import Derived.Test.YtgejiiaocgacmaaDoorFa
import Derived.Deep.RegionHeld2
import Derived.Deep.DeepCutAuto
namespace Go.Proofs.YtgejiiaocgacmaaDoor
open Go.ChangeShapes Go.WideShapes Go.ChangeAt Go.RowKit
set_option linter.unusedVariables false

theorem onlyc {g n : Nat} {w W0 W : World} (h : Hid (Only g W0 W)) (hg : g < w.heap.size) (hs : W0.heap.size = w.heap.size + n) :
    (∀ b o, w.heap.size ≤ b → b < w.heap.size + n → W.cell? ⟨b, o, none⟩ = W0.cell? ⟨b, o, none⟩) ∧ (∀ b o, w.heap.size ≤ b → b < w.heap.size + n → W.frozen? ⟨b, o, none⟩ = W0.frozen? ⟨b, o, none⟩) :=
  ⟨fun b o h1 h2 => h.out.cell (p := ⟨b, o, none⟩) (by simp; omega) (by simp; omega), fun b o h1 h2 => h.out.frozen (p := ⟨b, o, none⟩) (by simp; omega) (by simp; omega)⟩
theorem onlyT {g : Nat} {W0 W W' : World} (h : Hid (Only g W0 W)) (k : Only g W W') : Hid (Only g W0 W') := h.out.trans k
theorem onlyTd {g : Nat} {W0 W W' : World} (h : Hid (Only g W0 W)) (k : Only g W.drew W') : Hid (Only g W0 W') := h.out.drew.trans k
theorem get_only {g b : Nat} {W0 W : World} {o : Obj} (h : Only g W0 W) (k : W0.heap[b]? = some o) (e : b ≠ g) : W.heap[b]? = some o := (h.block b (size_of_get k) e).trans k
theorem arr_cells {w w' : World} {g v : Nat} {T : TypeId} (l : List Int) (lo hi : Int) (hl : ∀ x ∈ l, lo ≤ x ∧ x ≤ hi) (hv : v < l.length) (ho : Only g (w.alloc (.cells (l.map (Value.int .i64 ·)).toArray T)) w') (hg : g < w.heap.size) :
    ∃ y : Int, lo ≤ y ∧ y ≤ hi ∧ w'.cell? ⟨w.heap.size, v, none⟩ = some (.int .i64 y) := by
  refine ⟨l[v], (hl _ (List.getElem_mem hv)).1, (hl _ (List.getElem_mem hv)).2, ?_⟩
  rw [ho.cell (p := ⟨w.heap.size, v, none⟩) (by simp) (by simp; omega), World.cell?_alloc_mark]
  simp [hv]
theorem onlyS {g b j : Nat} {c : Value} {w W : World} (h : Only g w W) (hb : w.heap.size ≤ b) : Only g w (W.setCell ⟨b, j, none⟩ c) :=
  ⟨h.os, h.tape, h.output, by simpa [World.setCell] using h.size, fun k hk hn => (Below.heap_setCell _ _ _ _ (by simp; omega)).trans (h.block k hk hn)⟩
theorem rdS {N g b j : Nat} {c : Value} {W : World} (h : Rd N W g) (hb : g < b) : Rd N (W.setCell ⟨b, j, none⟩ c) g := h.keep fun k hk => Below.heap_setCell _ _ _ _ (by simp; omega)
theorem get_allocS {w : World} {g : Nat} {x o : Obj} (h : w.heap[g]? = some o) : (w.alloc x).heap[g]? = some o := get_alloc h (size_of_get h)
theorem rdA {N g : Nat} {o : Obj} {W : World} (h : Rd N W g) : Rd N (W.alloc o) g := h.below ((Below.refl _ _).alloc (Nat.le_refl _) _)
/-- The list at block b. -/
def Ints (w : World) (b : Nat) (l : List Int) : Prop := ∀ i, (h : i < l.length) → w.cell? ⟨b, i, none⟩ = some (.int .i64 l[i])
def Strs (w : World) (b : Nat) (l : List ByteArray) : Prop := ∀ i, (h : i < l.length) → w.cell? ⟨b, i, none⟩ = some (.string l[i])
theorem Ints.new {w : World} {T : TypeId} (l : List Int) : Ints (w.alloc (.cells (l.map (Value.int .i64 ·)).toArray T)) w.heap.size l := fun i h => by
  rw [World.cell?_alloc_mark]; simp [h]
theorem Strs.new {w : World} {T : TypeId} (l : List ByteArray) : Strs (w.alloc (.cells (l.map (Value.string ·)).toArray T)) w.heap.size l := fun i h => by
  rw [World.cell?_alloc_mark]; simp [h]
set_option maxHeartbeats 400000 in
theorem one_any (N g b cap : Nat) (l : List Int) (w : World) (hN : N ≤ 536870912) (hl : 1 ≤ l.length) (hl2 : l.length ≤ 1000) (hr : Rd N w g) (hb : b ≠ g) (hi : Ints w b l) :
    Calls Tryd.prog 100 #[.pointer (some ⟨g, 0, none⟩), .slice (some ⟨b, 0, none⟩) l.length cap] w fun e w' => ∃ y ∈ l, e = .returned (.int .i64 y) ∧ Only g w w' ∧ Rd (N + 1) w' g := by
  have HR : Hid _ := hr
  have HI : Hid _ := hi
  have hlt : b < w.heap.size := block_lt_of_cell (hi 0 hl)
  clear hr hi
  go_enter Tryd.func100, Tryd.ntmps100
  go_wp2_with fail
  refine (pickI N g _ _ (by omega) (by omega) (by omega) HR.out).mono ?_
  rintro e w1 ⟨v, hv, rfl, ho, hr1⟩
  have hv' : v < l.length := by omega
  have hcell : w1.cell? ⟨b, v, none⟩ = some (.int .i64 l[v]) := (ho.cell (p := ⟨b, v, none⟩) hlt hb).trans (HI.out v hv')
  have HO : Hid _ := ho
  have HR1 : Hid _ := hr1
  have HM : Hid (l[v] ∈ l) := List.getElem_mem hv'
  generalize l[v] = y at *
  clear ho hr1
  go_wp2_with fail
  go_ret
  exact ⟨y, HM.out, rfl, HO.out, HR1.out⟩
set_option maxRecDepth 100000 in
set_option maxHeartbeats 1000000 in
theorem l15Farm_any (N g : Nat) (w : World) (hN : N ≤ 500000) (hr : Rd N w g) :
    Calls Tryd.prog 131 #[.pointer (some ⟨g, 0, none⟩)] w fun e w' => ∃ (s wt ag : Bool) (c n : Int), 0 ≤ n ∧ n ≤ 255 ∧ e = .returned (.agg #[.bool s, .bool wt, .bool ag, .int .i64 c, .int .i64 n]) ∧ Only g w w' ∧ Rd (N + 8) w' g := by
  have hg := hr.lt
  have HO : Hid (Only g (w.alloc (.cells #[.bool false, .bool false, .bool false, .int .i64 0, .int .i64 0] 75)) (w.alloc (.cells #[.bool false, .bool false, .bool false, .int .i64 0, .int .i64 0] 75))) := Only.refl _ _
  have HR : Hid (Rd (N + 0) (w.alloc (.cells #[.bool false, .bool false, .bool false, .int .i64 0, .int .i64 0] 75)) g) := hr.below ((Below.refl _ _).alloc (Nat.le_refl _) _)
  clear hr
  go_enter Tryd.func131, Tryd.ntmps131
  go_wp2_with fail
  refine (pickI (N + 0) g _ _ (by omega) (by omega) (by omega) HR.out).mono ?_
  rintro e w1 ⟨v1, hv1, rfl, ho1, hr1⟩
  have HO : Hid (Only g (w.alloc (.cells #[.bool false, .bool false, .bool false, .int .i64 0, .int .i64 0] 75)) w1) := onlyT HO ho1
  have HR : Hid (Rd (N + 1) w1 g) := hr1
  obtain ⟨hc1, hf1⟩ := onlyc (n := 1) HO hg (by simp)
  clear ho1 hr1
  go_wp2_with fail
  refine (pickI (N + 1) g _ _ (by omega) (by omega) (by omega) HR.out).mono ?_
  rintro e w2 ⟨v2, hv2, rfl, ho2, hr2⟩
  have HO : Hid (Only g (w.alloc (.cells #[.bool false, .bool false, .bool false, .int .i64 0, .int .i64 0] 75)) w2) := onlyT HO ho2
  have HR : Hid (Rd (N + 2) w2 g) := hr2
  obtain ⟨hc2, hf2⟩ := onlyc (n := 1) HO hg (by simp)
  clear ho2 hr2
  try clear hc1 hf1
  go_wp2_with fail
  refine (pickI (N + 2) g _ _ (by omega) (by omega) (by omega) HR.out).mono ?_
  rintro e w3 ⟨v3, hv3, rfl, ho3, hr3⟩
  have HO : Hid (Only g (w.alloc (.cells #[.bool false, .bool false, .bool false, .int .i64 0, .int .i64 0] 75)) w3) := onlyT HO ho3
  have HR : Hid (Rd (N + 3) w3 g) := hr3
  obtain ⟨hc3, hf3⟩ := onlyc (n := 1) HO hg (by simp)
  clear ho3 hr3
  try clear hc2 hf2
  go_wp2_with fail
  refine (pickI (N + 3) g _ _ (by omega) (by omega) (by omega) HR.out).mono ?_
  rintro e w4 ⟨v4, hv4, rfl, ho4, hr4⟩
  have HO : Hid (Only g (w.alloc (.cells #[.bool false, .bool false, .bool false, .int .i64 0, .int .i64 0] 75)) w4) := onlyT HO ho4
  have HR : Hid (Rd (N + 4) w4 g) := hr4
  obtain ⟨hc4, hf4⟩ := onlyc (n := 1) HO hg (by simp)
  clear ho4 hr4
  try clear hc3 hf3
  go_wp2_with fail
  refine (pickI (N + 4) g _ _ (by omega) (by omega) (by omega) HR.out).mono ?_
  rintro e w5 ⟨v5, hv5, rfl, ho5, hr5⟩
  have HO : Hid (Only g (w.alloc (.cells #[.bool false, .bool false, .bool false, .int .i64 0, .int .i64 0] 75)) w5) := onlyT HO ho5
  have HR : Hid (Rd (N + 5) w5 g) := hr5
  obtain ⟨hc5, hf5⟩ := onlyc (n := 1) HO hg (by simp)
  clear ho5 hr5
  try clear hc4 hf4
  have HO : Hid (Only g (w.alloc (.cells #[.bool false, .bool false, .bool false, .int .i64 0, .int .i64 0] 75)) (w5.alloc (.cells #[.int .i64 (v4 : Int), .int .i64 (v5 : Int), .int .i64 255, .int .i64 0] 3))) := HO.out.alloc _
  have HR : Hid (Rd (N + 5) (w5.alloc (.cells #[.int .i64 (v4 : Int), .int .i64 (v5 : Int), .int .i64 255, .int .i64 0] 3)) g) := HR.out.below ((Below.refl _ _).alloc (Nat.le_refl _) _)
  have hg5 : g < w5.heap.size := by have := HO.out.size; simp at this; omega
  go_wp2_with fail
  refine (pickI (N + 5) g _ _ (by omega) (by omega) (by omega) HR.out).mono ?_
  rintro e w6 ⟨v6, hv6, rfl, ho6, hr6⟩
  obtain ⟨y, hy0, hy1, hcy⟩ := arr_cells (w := w5) (v := v6) [(v4 : Int), (v5 : Int), 255, 0] 0 255 (by simp; omega) (by simp; omega) ho6 hg5
  have hv6' : v6 < 4 := by omega
  have HO : Hid (Only g (w.alloc (.cells #[.bool false, .bool false, .bool false, .int .i64 0, .int .i64 0] 75)) w6) := onlyT HO ho6
  have HR : Hid (Rd (N + 6) w6 g) := hr6
  obtain ⟨hc6, hf6⟩ := onlyc (n := 1) HO hg (by simp)
  clear ho6 hr6
  try clear hc5 hf5
  have hz6 : w.heap.size < w6.heap.size := by have := HO.out.size; simp at this; omega
  have HW : Hid (Only g w w6) := ((Only.refl _ _).alloc _).trans HO.out
  generalize ((v1 : Int) == 0) = s at *
  cases hag : ((v2 : Int) == 0)
  · go_wp2_with fail
    refine bodyPost_ret (v := .agg #[.bool s, .bool false, .bool false, .int .i64 (v3 : Int), .int .i64 y]) (results_cell_row Tryd.results131 _ _ w.heap.size 75 #[.bool s, .bool false, .bool false, .int .i64 (v3 : Int), .int .i64 y] (0, 0) _ rfl ?_ Tryd.underlying75 rfl cellsFarm) rfl ⟨_, _, _, _, _, hy0, hy1, rfl, ?_, ?_⟩
    · exact get_allocS (get_set (get_set (get_set (get_set (get_set (get_only HO.out (get_new rfl) (by omega)) rfl) rfl) rfl) rfl) rfl)
    · exact (onlyS (onlyS (onlyS (onlyS (onlyS (HW.out) (by omega)) (by omega)) (by omega)) (by omega)) (by omega)).alloc _
    · exact (rdA (rdS (rdS (rdS (rdS (rdS (HR.out) (by omega)) (by omega)) (by omega)) (by omega)) (by omega))).mono (by omega)
  · have HR : Hid (Rd (N + 6) (w6.alloc (.cells #[.bool s, .bool false, .bool true, .int .i64 (v3 : Int), .int .i64 y] 75)) g) := HR.out.below ((Below.refl _ _).alloc (Nat.le_refl _) _)
    go_wp2_with fail
    refine (pickI (N + 6) g _ _ (by omega) (by omega) (by omega) HR.out).mono ?_
    rintro e w7 ⟨v7, hv7, rfl, ho7, hr7⟩
    have hG : w7.heap[w.heap.size]? = some (.cells #[.bool false, .bool false, .bool false, .int .i64 0, .int .i64 0] 75) := get_only ho7 (get_alloc (get_only HO.out (get_new rfl) (by omega)) hz6) (by omega)
    have hF : w7.heap[w6.heap.size]? = some (.cells #[.bool s, .bool false, .bool true, .int .i64 (v3 : Int), .int .i64 y] 75) := get_only ho7 (get_new rfl) (by omega)
    obtain ⟨k0, k1, k2, k3, k4⟩ := cells5_of hG
    obtain ⟨j0, j1, j2, j3, j4⟩ := cells5_of hF
    have f0 : ∀ j, w7.frozen? ⟨w.heap.size, j, none⟩ = false := fun j => frozen_get hG
    have f1 : ∀ j, w7.frozen? ⟨w6.heap.size, j, none⟩ = false := fun j => frozen_get hF
    have hs : ∀ u, (w7.setCell ⟨w6.heap.size, 1, none⟩ u).cell? ⟨w6.heap.size, 1, none⟩ = some u := fun u => World.cell?_setCell_same _ _ _ j1
    have HG : Hid _ := hG
    have HF : Hid _ := hF
    have HW : Hid (Only g w w7) := (HW.out.alloc _).trans ho7
    have HR : Hid (Rd (N + 6 + 1) w7 g) := hr7
    have hz7 : w6.heap.size < w7.heap.size := size_of_get hF
    have hne : ¬ w.heap.size = w6.heap.size := by omega
    have hne' : ¬ w6.heap.size = w.heap.size := by omega
    clear hG hF ho7 hr7 hc6 hf6
    go_wp2_with fail
    refine bodyPost_ret (v := .agg #[.bool s, .bool ((v7 : Int) == 0), .bool true, .int .i64 (v3 : Int), .int .i64 y]) (results_cell_row Tryd.results131 _ _ w.heap.size 75 #[.bool s, .bool ((v7 : Int) == 0), .bool true, .int .i64 (v3 : Int), .int .i64 y] (0, 0) _ rfl ?_ Tryd.underlying75 rfl cellsFarm) rfl ⟨_, _, _, _, _, hy0, hy1, rfl, ?_, ?_⟩
    · exact get_set (get_set (get_set (get_set (get_set (get_set_ne HG.out hne) rfl) rfl) rfl) rfl) rfl
    · exact onlyS (onlyS (onlyS (onlyS (onlyS (onlyS (HW.out) (by omega)) (by omega)) (by omega)) (by omega)) (by omega)) (by omega)
    · exact (rdS (rdS (rdS (rdS (rdS (rdS (HR.out) (by omega)) (by omega)) (by omega)) (by omega)) (by omega)) (by omega)).mono (by omega)
end Go.Proofs.YtgejiiaocgacmaaDoor
