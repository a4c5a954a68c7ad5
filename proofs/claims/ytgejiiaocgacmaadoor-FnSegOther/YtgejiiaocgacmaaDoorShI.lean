/- The joiner of impl.SegHear: a bytes.Buffer in a struct. -/
import Derived.Test.YtgejiiaocgacmaaDoorShelf
import Derived.Test.YtgejiiaocgacmaaDoorShS
import Derived.Lib.BufferAt
import Derived.Deep.RegionWith
namespace Go.Proofs.YtgejiiaocgacmaaDoor
open Go.ChangeShapes Go.WideShapes Go.ChangeAt Go.RowKit
set_option linter.unusedVariables false
def jrR (o : Bool) : Nat → Option Value := fun i => if i = 3 then some (.bool o) else none
/-- The joiner at the block b. -/
def Jr (w : World) (b : Nat) (o : Bool) (d : ByteArray) : Prop := LibA.IsBuffer 93 (jrR o) 5 b b 0 (Lib.byteCells d.data.toList) w
theorem Jr.setO {w : World} {b : Nat} {o : Bool} {d : ByteArray} (h : Jr w b o d) (x : Bool) : Jr (w.setCell ⟨b, 3, none⟩ (.bool x)) b x d := by
  have := LibA.IsBuffer.setOther h 3 (.inr (by omega)) (old := .bool o) (by simp [jrR]) (.bool x)
  have e : (fun j => if j = 3 then some (.bool x) else jrR o j) = jrR x := by
    funext j; unfold jrR; by_cases e : j = 3 <;> simp [e]
  rw [e] at this; exact this
theorem Jr.cellO {w : World} {b : Nat} {o : Bool} {d : ByteArray} (h : Jr w b o d) : w.cell? ⟨b, 3, none⟩ = some (.bool o) := LibA.IsBuffer.rest h 3 (.inr (by omega))
theorem Jr.fz {w : World} {b : Nat} {o : Bool} {d : ByteArray} (h : Jr w b o d) (i : Nat) : w.frozen? ⟨b, i, none⟩ = false := LibA.IsBuffer.notFrozen h i
theorem Jr.lt {w : World} {b : Nat} {o : Bool} {d : ByteArray} (h : Jr w b o d) : b < w.heap.size := LibA.IsBuffer.lt h
theorem Jr.old {w w' : World} {b : Nat} {o : Bool} {d : ByteArray} (h : Jr w b o d) (hb : Below w.heap.size w w') : Jr w' b o d := LibA.IsBuffer.old h hb
theorem Jr.drewN {w : World} {b : Nat} {o : Bool} {d : ByteArray} (h : Jr w b o d) (n : Nat) : Jr (w.drewN n) b o d := h
theorem cells_len (d : ByteArray) : (Lib.byteCells d.data.toList).length = d.size := by rw [Lib.byteCells_length]; rfl
theorem jr_string (d : ByteArray) : (⟨d.data.toList.toArray⟩ : ByteArray) = d := by simp
theorem jr_append (d s : ByteArray) : Lib.byteCells d.data.toList ++ Lib.byteCells s.data.toList = Lib.byteCells (d ++ s).data.toList := by
  rw [← Lib.byteCells_append]; congr 1
set_option maxRecDepth 100000 in
set_option maxHeartbeats 2000000 in
theorem resetJ (b : Nat) (o : Bool) (d : ByteArray) (w : World) (h : Jr w b o d) :
    Calls Tryd.prog 110 #[.pointer (some ⟨b, 0, none⟩)] w fun e w' => e = .returned (.tuple #[]) ∧ Jr w' b o ⟨#[]⟩ ∧ Below b w w' := by
  have hlt := h.lt
  obtain ⟨hB, lr, hc⟩ := LibA.IsBuffer.cases h
  rcases hc with ⟨-, hbk⟩ | ⟨g, cap, cur, hbk, hBg, hg, hnc, hcm, hcs, -, hgb⟩
  · have c0 : w.cell? ⟨b, 0, none⟩ = some (.slice none 0 0) := hbk.c0
    have c1 : w.cell? ⟨b, 1, none⟩ = some (.int .i64 0) := hbk.c1
    have c2 : w.cell? ⟨b, 2, none⟩ = some (.int .i8 lr) := hbk.c2
    have f0 : ∀ i, w.frozen? ⟨b, i, none⟩ = false := fun i => hbk.f i
    have HE : Hid (Jr (((w.setCell ⟨b, 0, none⟩ (.slice none 0 0)).setCell ⟨b, 1, none⟩ (.int .i64 0)).setCell ⟨b, 2, none⟩ (.int .i8 0)) b o ⟨#[]⟩) :=
      LibA.zero_isBuffer (Nat.le_refl _) (((hbk.set0 _).set1 _).set2 _)
    clear hbk h
    go_enter Tryd.func110, Tryd.ntmps110
    go_wp2
    go_end0
    exact ⟨rfl, HE.out, (((Below.refl b w).setCell (p := ⟨b, 0, none⟩) (Nat.le_refl _) _).setCell (p := ⟨b, 1, none⟩) (Nat.le_refl _) _).setCell (p := ⟨b, 2, none⟩) (Nat.le_refl _) _⟩
  · rw [cells_len] at hbk hnc
    have c0 : w.cell? ⟨b, 0, none⟩ = some (.slice (some ⟨g, 0, none⟩) d.size cap) := hbk.c0
    have c1 : w.cell? ⟨b, 1, none⟩ = some (.int .i64 0) := hbk.c1
    have c2 : w.cell? ⟨b, 2, none⟩ = some (.int .i8 lr) := hbk.c2
    have f0 : ∀ i, w.frozen? ⟨b, i, none⟩ = false := fun i => hbk.f i
    have hgf : (((w.setCell ⟨b, 0, none⟩ (.slice (some ⟨g, 0, none⟩) 0 cap)).setCell ⟨b, 1, none⟩ (.int .i64 0)).setCell ⟨b, 2, none⟩ (.int .i8 0)).heap[g]? = some (.cells cur 5 (0, 0)) := by
      rw [Below.heap_setCell _ _ _ _ hgb, Below.heap_setCell _ _ _ _ hgb, Below.heap_setCell _ _ _ _ hgb]
      exact hg
    have hm := LibA.isBuffer_mk (Nat.le_refl b) (((hbk.set0 (.slice (some ⟨g, 0, none⟩) 0 cap)).set1 (.int .i64 0)).set2 (.int .i8 0)) hBg hgf (Nat.zero_le _) hcm hcs hgb
    rw [List.take_zero] at hm
    have HE : Hid (Jr (((w.setCell ⟨b, 0, none⟩ (.slice (some ⟨g, 0, none⟩) 0 cap)).setCell ⟨b, 1, none⟩ (.int .i64 0)).setCell ⟨b, 2, none⟩ (.int .i8 0)) b o ⟨#[]⟩) := hm
    unfold maxLen at hcm
    clear hbk h hm hgf hg
    go_enter Tryd.func110, Tryd.ntmps110
    go_wp2
    go_end0
    exact ⟨rfl, HE.out, (((Below.refl b w).setCell (p := ⟨b, 0, none⟩) (Nat.le_refl _) _).setCell (p := ⟨b, 1, none⟩) (Nat.le_refl _) _).setCell (p := ⟨b, 2, none⟩) (Nat.le_refl _) _⟩
set_option maxHeartbeats 1000000 in
theorem beginJ (b : Nat) (o : Bool) (d : ByteArray) (w : World) (h : Jr w b o d) :
    Calls Tryd.prog 58 #[.pointer (some ⟨b, 0, none⟩)] w fun e w' => e = .returned (.tuple #[]) ∧ Jr w' b true ⟨#[]⟩ ∧ Below b w w' := by
  have HR : Hid _ := resetJ b o d w h
  clear h
  go_enter Tryd.func58, Tryd.ntmps58
  go_wp2_with fail
  refine Calls.mono HR.out ?_
  rintro e w1 ⟨rfl, hj, hb⟩
  have HJ : Hid _ := hj.setO true
  have HB : Hid (Below b w w1) := hb
  have k3 := hj.cellO
  have fz : ∀ i, w1.frozen? ⟨b, i, none⟩ = false := fun i => hj.fz i
  clear hj hb
  go_wp2_with fail
  go_end0
  exact ⟨rfl, HJ.out, HB.out.setCell (p := ⟨b, 3, none⟩) (Nat.le_refl _) _⟩
set_option maxHeartbeats 1000000 in
theorem dropJ (b : Nat) (o : Bool) (d : ByteArray) (w : World) (h : Jr w b o d) :
    Calls Tryd.prog 61 #[.pointer (some ⟨b, 0, none⟩)] w fun e w' => e = .returned (.tuple #[]) ∧ Jr w' b false ⟨#[]⟩ ∧ Below b w w' := by
  have HR : Hid _ := resetJ b o d w h
  clear h
  go_enter Tryd.func61, Tryd.ntmps61
  go_wp2_with fail
  refine Calls.mono HR.out ?_
  rintro e w1 ⟨rfl, hj, hb⟩
  have HJ : Hid _ := hj.setO false
  have HB : Hid (Below b w w1) := hb
  have k3 := hj.cellO
  have fz : ∀ i, w1.frozen? ⟨b, i, none⟩ = false := fun i => hj.fz i
  clear hj hb
  go_wp2_with fail
  go_end0
  exact ⟨rfl, HJ.out, HB.out.setCell (p := ⟨b, 3, none⟩) (Nat.le_refl _) _⟩
theorem writeJ (b : Nat) (o : Bool) (d s : ByteArray) (w : World) (h : Jr w b o d) (hd : d.size ≤ 1048576) (hs : s.size ≤ 1048576) :
    Calls Tryd.prog 109 #[.pointer (some ⟨b, 0, none⟩), .string s] w fun e w' => e = .returned (.tuple #[.int .i64 s.size, .nilIface]) ∧ Jr w' b o (d ++ s) ∧ Below b w w' :=
  (Tryd.Buffer_WriteString_at 93 (jrR o) b b 0 _ s w h (Nat.le_of_lt h.lt) (Lib.byteCells_one _) (by rw [cells_len]; omega)).mono fun e w' ⟨h1, h2, h3, _⟩ => ⟨h1, by rw [jr_append] at h2; exact h2, h3⟩
theorem stringJ (b : Nat) (o : Bool) (d : ByteArray) (w : World) (h : Jr w b o d) :
    Calls Tryd.prog 60 #[.pointer (some ⟨b, 0, none⟩)] w fun e w' => e = .returned (.string d) ∧ ∃ n, w' = w.drewN n :=
  (Tryd.Buffer_String_at 93 (jrR o) b b 0 d.data.toList w h).mono fun e w' ⟨h1, h2⟩ => ⟨by rw [jr_string] at h1; exact h1, h2⟩
theorem lenJ (b : Nat) (o : Bool) (d : ByteArray) (w : World) (h : Jr w b o d) :
    Calls Tryd.prog 111 #[.pointer (some ⟨b, 0, none⟩)] w fun e w' => e = .returned (.int .i64 d.size) ∧ ∃ n, w' = w.drewN n :=
  (Tryd.Buffer_Len_at 93 (jrR o) b b 0 _ w h).mono fun e w' ⟨h1, h2⟩ => ⟨by rw [cells_len] at h1; exact h1, h2⟩
theorem nil_app (d : ByteArray) : (⟨#[]⟩ : ByteArray) ++ d = d := by
  apply ByteArray.ext; simp
theorem writeJ0 (b : Nat) (o : Bool) (s : ByteArray) (w : World) (h : Jr w b o ⟨#[]⟩) (hs : s.size ≤ 1048576) :
    Calls Tryd.prog 109 #[.pointer (some ⟨b, 0, none⟩), .string s] w fun e w' => e = .returned (.tuple #[.int .i64 s.size, .nilIface]) ∧ Jr w' b o s ∧ Below b w w' :=
  (writeJ b o ⟨#[]⟩ s w h (Nat.zero_le _) hs).mono fun e w' ⟨h1, h2, h3⟩ => ⟨h1, by rw [nil_app] at h2; exact h2, h3⟩
set_option maxRecDepth 100000 in
set_option maxHeartbeats 1000000 in
theorem newJoiner_any (o : Bool) (d : ByteArray) (w : World) (hd : d.size ≤ 1048576) :
    Calls Tryd.prog 57 #[.agg #[.bool o, .string d]] w fun e w' => ∃ b, w.heap.size ≤ b ∧ e = .returned (.pointer (some ⟨b, 0, none⟩)) ∧ Jr w' b o d ∧ Below w.heap.size w w' := by
  have HB0 : Hid (Below w.heap.size w ((w.alloc (.cells #[.bool o, .string d] 25)).alloc (.cells #[.slice none 0 0, .int .i64 0, .int .i8 0, .bool o] 93))) := ((Below.refl _ _).alloc (Nat.le_refl _) _).alloc (by simp) _
  have HP0 : Hid (((w.alloc (.cells #[.bool o, .string d] 25)).alloc (.cells #[.slice none 0 0, .int .i64 0, .int .i8 0, .bool o] 93)).heap[w.heap.size]? = some (.cells #[.bool o, .string d] 25)) := get_alloc (get_new rfl) (by simp)
  have HQ0 : Hid (((w.alloc (.cells #[.bool o, .string d] 25)).alloc (.cells #[.slice none 0 0, .int .i64 0, .int .i8 0, .bool o] 93)).heap[w.heap.size + 1]? = some (.cells #[.slice none 0 0, .int .i64 0, .int .i8 0, .bool o] 93)) := get_new (by simp)
  go_enter Tryd.func57, Tryd.ntmps57
  go_wp2_with fail
  generalize ((w.alloc (.cells #[.bool o, .string d] 25)).alloc (.cells #[.slice none 0 0, .int .i64 0, .int .i8 0, .bool o] 93)) = w0 at *
  have HJ : Hid (Jr w0 (w.heap.size + 1) o ⟨#[]⟩) := LibA.zero_isBuffer (Nat.le_refl _) (lr := 0) ⟨_, HQ0.out, rfl, rfl, rfl, fun i hi => by
    unfold jrR
    rcases hi with hi | hi
    · omega
    · by_cases e : i = 3
      · subst e; rfl
      · rw [if_neg e]; exact Array.getElem?_eq_none (by simp; omega)⟩
  obtain ⟨k0, k1⟩ := cells2_of HP0.out
  have hz := size_of_get HP0.out
  go_region_with (go_at_call 109; refine (writeJ0 (w.heap.size + 1) o d w0.drew HJ.out hd).mono ?_; rintro e w8 ⟨rfl, hj8, hb8⟩; have HJ8 : Hid (Jr w8 (w.heap.size + 1) o d) := hj8; have HB8 : Hid (Below w.heap.size w w8) := (Below.drew HB0.out).trans (hb8.mono (by omega)); clear hj8 hb8)
  all_goals
    go_wp2_with fail
    go_ret
    exact ⟨w.heap.size + 1, by omega, rfl, HJ8.out, HB8.out⟩
set_option maxRecDepth 100000 in
set_option maxHeartbeats 1000000 in
theorem addJ_yes (b : Nat) (d s : ByteArray) (w : World) (h : Jr w b true d) (hd : d.size ≤ 106) (hs : s.size ≤ 1048576) (hc : d.size + s.size ≤ 106) :
    Calls Tryd.prog 59 #[.pointer (some ⟨b, 0, none⟩), .string s] w fun e w' => e = .returned (.tuple #[]) ∧ Jr w' b true (d ++ s) ∧ Below b w w' := by
  have HJ : Hid (Jr w b true d) := h
  have k3 := h.cellO
  have hc2 : ¬ (106 : Int) < (d.size : Int) + (s.size : Int) := by omega
  clear h hc
  go_enter Tryd.func59, Tryd.ntmps59
  go_wp2_with fail
  refine (lenJ b true d _ HJ.out).mono ?_
  rintro e w1 ⟨rfl, n, rfl⟩
  go_wp2_with fail
  refine (writeJ b true d s _ (HJ.out.drewN n) (by omega) hs).mono ?_
  rintro e w2 ⟨rfl, hj, hb⟩
  have HJ2 : Hid _ := hj
  have HB2 : Hid (Below b w w2) := (belowN (Below.refl _ _) n).trans hb
  clear hj hb
  go_wp2_with fail
  first | go_end0 | go_ret
  exact ⟨rfl, HJ2.out, HB2.out⟩
set_option maxRecDepth 100000 in
set_option maxHeartbeats 1000000 in
theorem addJ_no (b : Nat) (o : Bool) (d s : ByteArray) (w : World) (h : Jr w b o d) (hd : d.size ≤ 106) (hs : s.size ≤ 1048576) (hc : o = false ∨ (o = true ∧ 106 < d.size + s.size)) :
    Calls Tryd.prog 59 #[.pointer (some ⟨b, 0, none⟩), .string s] w fun e w' => e = .returned (.tuple #[]) ∧ Jr w' b false ⟨#[]⟩ ∧ Below b w w' := by
  have HJ : Hid (Jr w b o d) := h
  have k3 := h.cellO
  clear h
  rcases hc with rfl | ⟨rfl, hc⟩
  · go_enter Tryd.func59, Tryd.ntmps59
    go_wp2_with fail
    refine (dropJ b false d _ HJ.out).mono ?_
    rintro e w2 ⟨rfl, hj, hb⟩
    have HJ2 : Hid _ := hj
    have HB2 : Hid (Below b w w2) := hb
    clear hj hb
    go_wp2_with fail
    first | (go_end0; exact ⟨rfl, HJ2.out, HB2.out⟩) | exact bodyPost_ret (v := .tuple #[]) (results_none Tryd.results59 _ _ _) rfl ⟨rfl, HJ2.out, HB2.out⟩
  · have hc2 : (106 : Int) < (d.size : Int) + (s.size : Int) := by omega
    clear hc
    go_enter Tryd.func59, Tryd.ntmps59
    go_wp2_with fail
    refine (lenJ b true d _ HJ.out).mono ?_
    rintro e w1 ⟨rfl, n, rfl⟩
    go_wp2_with fail
    refine (dropJ b true d _ (HJ.out.drewN n)).mono ?_
    rintro e w2 ⟨rfl, hj, hb⟩
    have HJ2 : Hid _ := hj
    have HB2 : Hid (Below b w w2) := (belowN (Below.refl _ _) n).trans hb
    clear hj hb
    go_wp2_with fail
    first | (go_end0; exact ⟨rfl, HJ2.out, HB2.out⟩) | exact bodyPost_ret (v := .tuple #[]) (results_none Tryd.results59 _ _ _) rfl ⟨rfl, HJ2.out, HB2.out⟩
set_option maxRecDepth 100000 in
set_option maxHeartbeats 1000000 in
theorem joinJ (b : Nat) (o : Bool) (d : ByteArray) (w : World) (h : Jr w b o d) :
    Calls Tryd.prog 62 #[.pointer (some ⟨b, 0, none⟩)] w fun e w' => e = .returned (.agg #[.bool o, .string d]) ∧ Below w.heap.size w w' := by
  have hlt := h.lt
  have HB0 : Hid (Below w.heap.size w (w.alloc (.cells #[.bool false, .string ⟨#[]⟩] 25))) := (Below.refl _ _).alloc (Nat.le_refl _) _
  have HJ : Hid (Jr (w.alloc (.cells #[.bool false, .string ⟨#[]⟩] 25)) b o d) := h.old HB0.out
  have HR : Hid ((w.alloc (.cells #[.bool false, .string ⟨#[]⟩] 25)).heap[w.heap.size]? = some (.cells #[.bool false, .string ⟨#[]⟩] 25)) := get_new rfl
  clear h
  go_enter Tryd.func62, Tryd.ntmps62
  go_wp2_with fail
  generalize (w.alloc (.cells #[.bool false, .string ⟨#[]⟩] 25)) = w0 at *
  have k3 := HJ.out.cellO
  obtain ⟨r0, r1⟩ := cells2_of HR.out
  have fr : ∀ j, w0.frozen? ⟨w.heap.size, j, none⟩ = false := fun j => frozen_get HR.out
  go_region_with (go_at_call 60; refine (stringJ b o d w0.drew HJ.out).mono ?_; rintro e w8 ⟨rfl, n, rfl⟩)
  all_goals
    go_wp2_with fail
    refine bodyPost_ret (v := .agg #[.bool o, .string d]) (results_cell_row Tryd.results62 _ _ (w.heap.size) 25 #[.bool o, .string d] (0, 0) _ rfl ?_ Tryd.underlying25 rfl cellsJoin) rfl ⟨rfl, ?_⟩
    · exact get_set (get_set HR.out rfl) rfl
    · exact belowS (belowS (belowN HB0.out _) (Nat.le_refl _)) (Nat.le_refl _)
end Go.Proofs.YtgejiiaocgacmaaDoor
