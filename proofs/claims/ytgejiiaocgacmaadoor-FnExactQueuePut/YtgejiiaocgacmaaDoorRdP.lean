/- The packet's reader: strings.Reader's Len and Read, text, number. -/
import Derived.Test.YtgejiiaocgacmaaDoorNumG
import Derived.Test.YtgejiiaocgacmaaDoorHeap
import Derived.Test.YtgejiiaocgacmaaDoorDraw
import Derived.Test.YtgejiiaocgacmaaDoorCopM
import Derived.Test.YtgejiiaocgacmaaDoorPgP
import Derived.Deep.RegionHeld2
import Derived.Deep.RegionLaw
import Derived.Laws.MakeOwn
namespace Go.Proofs.YtgejiiaocgacmaaDoor
open Go.ChangeShapes Go.WideShapes Go.ChangeAt Go.RowKit Go.Lib
set_option linter.unusedVariables false

theorem cells3P {w : World} {g : Nat} {t : TypeId} {v0 v1 v2 : Value} {fr : Nat × Nat} (h : w.heap[g]? = some (.cells #[v0, v1, v2] t fr)) :
    w.cell? ⟨g, 0, none⟩ = some v0 ∧ w.cell? ⟨g, 1, none⟩ = some v1 ∧ w.cell? ⟨g, 2, none⟩ = some v2 :=
  ⟨cell_get h rfl, cell_get h rfl, cell_get h rfl⟩
theorem step_copy_run {P : Program} {ops : Array Oper} {o : Oper} {a : Act} {w : World} {K : Act → World → Prop} {Q : Exit → Act → World → Prop} {E : Prop}
    (hgd : o.guard = none) (d s : Operand) (t t' : TypeId) (hop : o.op = .call { callee := .builtin .copy, args := #[d, s], argTypes := #[t, t'] }) (v u : Value) (hd : a.eval d = v) (hs : a.eval s = u) {v' : Value} {w' : World}
    (hr : (Builtin.copy_ #[t, t'] o.type #[v, u]).run P w = .ok v' w') (hK : K (a.put o.dst v') w') : if Region.wanted o (yielded ops a.tmps) = true then Oper.wp P o a w K Q else E := by
  have hw : Region.wanted o (yielded ops a.tmps) = true := by simp [Region.wanted, hgd]
  rw [if_pos hw]
  unfold Oper.wp execOp
  simp only [hop, resolve, invoke, builtin, Sem.run_bind, Sem.run_pure, Result.andThen_ok, List.map_toArray, List.map_cons, List.map_nil, hd, hs, hr]
  exact hK
theorem bdrewN {B : Nat} {a w : World} (h : Below B a w) (n : Nat) : Below B a (w.drewN n) := ⟨h.os, h.tape, h.output, h.size, h.block⟩
/-- The reader at block g: the text s, the place i. -/
def Prd (w : World) (g : Nat) (s : ByteArray) (i : Nat) : Prop := i ≤ s.size ∧ ∃ pr : Int, w.heap[g]? = some (.cells #[.string s, .int .i64 i, .int .i64 pr] 175)
theorem Prd.only {w w' : World} {g g' : Nat} {s : ByteArray} {i : Nat} (h : Prd w g s i) (k : Only g' w w') (e : g ≠ g') : Prd w' g s i := by
  obtain ⟨h1, pr, hg⟩ := h
  exact ⟨h1, pr, (k.block g (size_of_get hg) e).trans hg⟩
theorem Prd.below {w w' : World} {g : Nat} {s : ByteArray} {i : Nat} (h : Prd w g s i) (k : Below w.heap.size w w') : Prd w' g s i := by
  obtain ⟨h1, pr, hg⟩ := h
  exact ⟨h1, pr, get_below k hg (size_of_get hg)⟩
theorem Prd.lt {w : World} {g : Nat} {s : ByteArray} {i : Nat} (h : Prd w g s i) : g < w.heap.size := size_of_get h.2.choose_spec
set_option maxHeartbeats 1000000 in
theorem rlen_any (g : Nat) (s : ByteArray) (i : Nat) (w : World) (hs : s.size ≤ maxLen) (h : Prd w g s i) :
    Calls Tryd.prog 152 #[.pointer (some ⟨g, 0, none⟩)] w fun e w' => e = .returned (.int .i64 ((s.size : Int) - i)) ∧ Below w.heap.size w w' := by
  obtain ⟨hi, pr, hg⟩ := h
  unfold maxLen at hs
  obtain ⟨k0, k1, k2⟩ := cells3P hg
  clear hg
  by_cases he : s.size ≤ i
  · have hge : decide ((s.size : Int) ≤ i) = true := by simp; omega
    have e0 : (s.size : Int) - i = 0 := by omega
    rw [e0]
    go_enter Tryd.func152, Tryd.ntmps152
    go_wp2_with fail
    go_big_quiet (fail)
    go_wp2_with fail
    go_ret
    exact ⟨rfl, bdrewN (Below.refl _ _) _⟩
  · have hge : decide ((s.size : Int) ≤ i) = false := by simp; omega
    go_enter Tryd.func152, Tryd.ntmps152
    go_wp2_with fail
    go_big_quiet (fail)
    go_wp2_with fail
    go_big_quiet (fail)
    go_wp2_with fail
    go_ret
    exact ⟨rfl, bdrewN (bdrewN (Below.refl _ _) _) _⟩
/-- io.EOF's cell. -/
def Eof (w : World) : Prop := ∃ v : Value, v.oneCell' = true ∧ w.cell? ⟨3, 0, none⟩ = some v
/-- All blocks stay but g and o. -/
def On2 (g o : Nat) (w w' : World) : Prop := w'.os = w.os ∧ w'.tape = w.tape ∧ w'.output = w.output ∧ w.heap.size ≤ w'.heap.size ∧ ∀ k, k < w.heap.size → k ≠ g → k ≠ o → w'.heap[k]? = w.heap[k]?
theorem On2.refl (g o : Nat) (w : World) : On2 g o w w := ⟨rfl, rfl, rfl, Nat.le_refl _, fun _ _ _ _ => rfl⟩
theorem On2.drewN {g o : Nat} {w W : World} (h : On2 g o w W) (n : Nat) : On2 g o w (W.drewN n) := h
theorem On2.set {g o j : Nat} {w W : World} {v : Value} (h : On2 g o w W) : On2 g o w (W.setCell ⟨g, j, none⟩ v) :=
  ⟨h.1, h.2.1, h.2.2.1, by simpa [World.setCell] using h.2.2.2.1, fun k h1 h2 h3 => (Below.heap_setCell _ _ _ _ (by simp; omega)).trans (h.2.2.2.2 k h1 h2 h3)⟩
theorem On2.row {g o : Nat} {w W : World} {cs : Array Value} (h : On2 g o w W) : On2 g o w (W.setRow o cs) :=
  ⟨h.1, h.2.1, h.2.2.1, by rw [setRow_size]; exact h.2.2.2.1, fun k h1 h2 h3 => (setRow_other _ _ _ _ h3).trans (h.2.2.2.2 k h1 h2 h3)⟩
theorem On2.below {g o : Nat} {w w0 w' : World} (h : On2 g o w w') (k : Only g w0 w) (ho : w0.heap.size ≤ o) : Only g w0 w' :=
  ⟨h.1.trans k.os, h.2.1.trans k.tape, h.2.2.1.trans k.output, Nat.le_trans k.size h.2.2.2.1, fun j h1 h2 => (h.2.2.2.2 j (Nat.lt_of_lt_of_le h1 k.size) h2 (by omega)).trans (k.block j h1 h2)⟩
set_option maxHeartbeats 2000000 in
theorem rread_some (g o n : Nat) (s : ByteArray) (i : Nat) (cur : Array Value) (w : World) (hs : s.size ≤ maxLen) (h : Prd w g s i) (hn : n ≤ s.size - i) (hlt : i < s.size) (ho : w.heap[o]? = some (.cells cur 5)) (hc : cur.size = n) (hne : o ≠ g) :
    Calls Tryd.prog 153 #[.pointer (some ⟨g, 0, none⟩), .slice (some ⟨o, 0, none⟩) n n] w fun e w' => (∃ v, e = .returned v) ∧ Prd w' g s (i + n) ∧ w'.heap[o]? = some (.cells (byteCells ((s.data.toList.drop i).take n)).toArray 5) ∧ On2 g o w w' := by
  obtain ⟨hi, pr, hg⟩ := h
  unfold maxLen at hs
  obtain ⟨k0, k1, k2⟩ := cells3P hg
  have fz : ∀ j, w.frozen? ⟨g, j, none⟩ = false := fun j => frozen_get hg
  have hge : decide ((s.size : Int) ≤ i) = false := by simp; omega
  have HG : Hid _ := hg
  have HO : Hid _ := ho
  clear hg ho
  go_enter Tryd.func153, Tryd.ntmps153
  go_wp2_with fail
  go_big_quiet (fail)
  go_wp2_with fail
  have HG1 : Hid (((w.drewN nq).setCell ⟨g, 2, none⟩ (.int .i64 (-1))).heap[g]? = some (.cells #[.string s, .int .i64 i, .int .i64 (-1)] 175)) := get_set (w := w.drewN nq) HG.out rfl
  have HO1 : Hid (((w.drewN nq).setCell ⟨g, 2, none⟩ (.int .i64 (-1))).heap[o]? = some (.cells cur 5)) := get_set_ne (w := w.drewN nq) HO.out hne
  have H2 : Hid (On2 g o w ((w.drewN nq).setCell ⟨g, 2, none⟩ (.int .i64 (-1)))) := ((On2.refl _ _ _).drewN _).set
  clear k0 k1 k2 fz HG HO
  generalize ((w.drewN nq).setCell ⟨g, 2, none⟩ (.int .i64 (-1))) = wr at *
  obtain ⟨k0, k1, k2⟩ := cells3P HG1.out
  have hsx : (s.extract i s.size).size = s.size - i := by rw [ByteArray.size_extract]; omega
  obtain ⟨w5, hw5⟩ : ∃ w5, w5 = wr.drew.setRow o (byteCells ((s.extract i s.size).data.toList.take n)).toArray := ⟨_, rfl⟩
  have hrun : (Builtin.copy_ #[31, 9] 3 #[.slice (some ⟨o, 0, none⟩) n n, .string (s.extract i s.size)]).run Tryd.prog wr.drew = .ok (goInt n) w5 := by
    rw [hw5]
    exact copy_min wr.drew 31 9 3 5 o n n (s.extract i s.size) cur 5 Tryd.underlying31 (by kernel_rfl) HO1.out hc (by omega)
  have hR5 : w5.heap[o]? = some (.cells (byteCells ((s.data.toList.drop i).take n)).toArray 5) := by
    rw [hw5, setRow_heap wr.drew o cur _ 5 (0, 0) HO1.out]
    have : (s.extract i s.size).data.toList = s.data.toList.drop i := by
      rw [ByteArray.data_extract, Array.toList_extract, List.extract_eq_take_drop, List.take_of_length_le (by simp)]
    rw [this]
  have HR5 : Hid _ := hR5
  have HG5 : Hid (w5.heap[g]? = some (.cells #[.string s, .int .i64 i, .int .i64 (-1)] 175)) := by
    rw [hw5, setRow_other wr.drew o g _ (fun e => hne e.symm)]; exact HG1.out
  have H5 : Hid (On2 g o w w5) := by rw [hw5]; exact (H2.out.drewN 1).row
  have HRUN : Hid _ := hrun
  clear hw5 hR5 hrun H2 HO1 HG1
  obtain ⟨j0, j1, j2⟩ := cells3P HG5.out
  have fz : ∀ j, w5.frozen? ⟨g, j, none⟩ = false := fun j => frozen_get HG5.out
  go_region_law (refine step_copy_run rfl (.tmp 20) (.tmp 29) 31 9 rfl _ _ rfl rfl HRUN.out ?_)
  all_goals
    go_wp2_with fail
    go_ret2
    exact ⟨⟨_, rfl⟩, ⟨by omega, -1, get_set HG5.out rfl⟩, get_set_ne HR5.out hne, H5.out.set⟩
set_option maxHeartbeats 1000000 in
theorem rread_none (g o : Nat) (s : ByteArray) (i : Nat) (w : World) (hs : s.size ≤ maxLen) (h : Prd w g s i) (hlt : ¬ i < s.size) (he : Eof w) :
    Calls Tryd.prog 153 #[.pointer (some ⟨g, 0, none⟩), .slice (some ⟨o, 0, none⟩) 0 0] w fun e w' => (∃ v, e = .returned v) ∧ ∃ m, w' = w.drewN m := by
  obtain ⟨hi, pr, hg⟩ := h
  obtain ⟨v, hv1, hv⟩ := he
  unfold maxLen at hs
  obtain ⟨k0, k1, k2⟩ := cells3P hg
  have hge : decide ((s.size : Int) ≤ i) = true := by simp; omega
  clear hg
  go_enter Tryd.func153, Tryd.ntmps153
  go_wp2_with fail
  go_big_quiet (fail)
  go_wp2_with fail
  go_big_quiet (fail)
  go_wp2_with fail
  go_ret2
  exact ⟨⟨_, rfl⟩, _, by rw [World.drewN_drewN]⟩
theorem infoU8P : (Tryd.prog.info? 5).map (fun i => (i.zero, i.size, i.bytes)) = some (some (.int .u8 0), 1, 1) := by kernel_rfl
theorem mkBytes (m : Nat) (hm : m ≤ 1048576) (W : World) : (Instr.makeSlice 31 (.int .i64 (m : Int)) (.int .i64 (m : Int))).run Tryd.prog W = .ok (.slice (some ⟨W.heap.size, 0, none⟩) m m) (W.alloc (.cells (madeCells #[.int .u8 0] m) 5)) := by
  obtain ⟨i0, hi, hz0, hz1, hz2⟩ := info_parts infoU8P
  have h := run_makeSlice (P := Tryd.prog) W 31 5 i0 (.int .u8 0) Tryd.underlying31 hi hz0 .i64 .i64 (m : Int) (m : Int) (by omega) (Int.le_refl _) (by rw [hz1]; simp; omega) (by rw [hz2]; omega) (by omega)
  rw [hz1, show (Value.int IntKind.u8 0).cells = #[.int .u8 0] from rfl] at h
  simpa using h
theorem conv_row {W : World} {o cap : Nat} (l : List UInt8) (h : W.heap[o]? = some (.cells (byteCells l).toArray 5)) :
    (convert 31 9 (.slice (some ⟨o, 0, none⟩) l.length cap)).run Tryd.prog W = .ok (.string ⟨l.toArray⟩) W :=
  run_convert_bytes_back (P := Tryd.prog) W 31 9 5 ⟨o, 0, none⟩ cap l Tryd.underlying31 Tryd.underlying5 Tryd.underlying9 (fun j hj => by
    have hadd : (⟨o, 0, none⟩ : Addr).add j = ⟨o, j, none⟩ := by unfold Addr.add; split <;> simp_all
    rw [hadd]
    refine cell_get h ?_
    simp [byteCells, hj])
theorem ext_lst (s : ByteArray) (i m : Nat) : (⟨((s.data.toList.drop i).take m).toArray⟩ : ByteArray) = s.extract i (i + m) := by
  apply bytes_inj
  rw [ByteArray.data_extract, Array.toList_extract, List.extract_eq_take_drop, Nat.add_sub_cancel_left]
theorem Eof.only {w w' : World} {g : Nat} (h : Eof w) (k : Only g w w') (e : 3 ≠ g) : Eof w' := by
  obtain ⟨v, h1, h2⟩ := h
  exact ⟨v, h1, (k.cell (p := ⟨3, 0, none⟩) (block_lt_of_cell h2) e).trans h2⟩
theorem Eof.below {w w' : World} (h : Eof w) (k : Below w.heap.size w w') : Eof w' := by
  obtain ⟨v, h1, h2⟩ := h
  exact ⟨v, h1, (k.cell (p := ⟨3, 0, none⟩) (block_lt_of_cell h2)).trans h2⟩
set_option maxRecDepth 100000 in
set_option maxHeartbeats 2000000 in
theorem rtext_any (g n : Nat) (s : ByteArray) (i : Nat) (w : World) (hs : s.size ≤ 1048576) (h : Prd w g s i) (he : Eof w) (hg : 3 ≠ g) :
    Calls Tryd.prog 135 #[.pointer (some ⟨g, 0, none⟩), .int .i64 n] w fun e w' => e = .returned (.string (s.extract i (i + min n (s.size - i)))) ∧ Prd w' g s (i + min n (s.size - i)) ∧ Only g w w' := by
  have hi := h.1
  have hsm : s.size ≤ maxLen := by unfold maxLen; omega
  have HS : Hid (s.size ≤ maxLen) := hsm
  have HP : Hid (Prd w g s i) := h
  have HE : Hid (Eof w) := he
  have HL : Hid (∀ W, Prd W g s i → Calls Tryd.prog 152 #[.pointer (some ⟨g, 0, none⟩)] W fun e w' => e = .returned (.int .i64 ((s.size - i : Nat) : Int)) ∧ Below W.heap.size W w') := fun W hp => by
    have := rlen_any g s i W hsm hp
    rwa [show (s.size : Int) - i = ((s.size - i : Nat) : Int) from by omega] at this
  have hgl := h.lt
  have hL1 : s.size - i ≤ 1048576 := by omega
  obtain ⟨L, hL⟩ : ∃ L, s.size - i = L := ⟨_, rfl⟩
  rw [hL] at HL hL1 ⊢
  have HLL : Hid (s.size - i = L) := hL
  obtain ⟨m, hm, hmm⟩ : ∃ m, min n L = m ∧ ((n ≤ L ∧ n = m) ∨ (L < n ∧ L = m)) := ⟨_, rfl, by omega⟩
  rw [hm]
  clear h he hsm hs hL hm
  rcases hmm with ⟨hc, rfl⟩ | ⟨hc, rfl⟩
  · go_enter Tryd.func135, Tryd.ntmps135
    go_wp2_with fail
    refine Calls.mono (HL.out w HP.out) ?_
    rintro e w1 ⟨rfl, hb⟩
    have HP1 : Hid (Prd w1 g s i) := HP.out.below hb
    have HE1 : Hid (Eof w1) := HE.out.below hb
    have HO1 : Hid (Only g w w1) := Only.of_below hb
    have hz1 := hb.size
    clear hb HP HE
    have hmk := mkBytes n (by omega) w1
    go_wp2_with fail
    have HP2 : Hid (Prd (w1.alloc (.cells (madeCells #[.int .u8 0] n) 5)) g s i) := HP1.out.below ((Below.refl _ _).alloc (Nat.le_refl _) _)
    have HE2 : Hid (Eof (w1.alloc (.cells (madeCells #[.int .u8 0] n) 5))) := HE1.out.below ((Below.refl _ _).alloc (Nat.le_refl _) _)
    have HO2 : Hid (Only g w (w1.alloc (.cells (madeCells #[.int .u8 0] n) 5))) := HO1.out.alloc _
    have HB2 : Hid ((w1.alloc (.cells (madeCells #[.int .u8 0] n) 5)).heap[w1.heap.size]? = some (.cells (madeCells #[.int .u8 0] n) 5)) := get_new rfl
    have hcs : (madeCells #[.int .u8 0] n).size = n := size_madeCells _ _
    generalize madeCells #[.int .u8 0] n = cur at *
    generalize (w1.alloc (.cells cur 5)) = w2 at *
    clear hmk HP1 HE1 HO1
    by_cases hlt : i < s.size
    · refine (rread_some g w1.heap.size n s i cur w2 HS.out HP2.out (by have := HLL.out; omega) hlt HB2.out hcs (by omega)).mono ?_
      rintro e w3 ⟨⟨v, rfl⟩, hp, hrow, h2⟩
      have HP3 : Hid (Prd w3 g s (i + n)) := hp
      have HO3 : Hid (Only g w w3) := h2.below HO2.out (by omega)
      have hl : ((s.data.toList.drop i).take n).length = n := by have := HLL.out; simp; omega
      have hcv := conv_row (cap := n) _ hrow
      rw [hl, ext_lst] at hcv
      clear hp hrow h2 hl
      go_wp2_with fail
      go_ret
      exact ⟨rfl, HP3.out, HO3.out⟩
    · have hm0 : n = 0 := by have := HLL.out; omega
      subst hm0
      refine (rread_none g w1.heap.size s i w2 HS.out HP2.out hlt HE2.out).mono ?_
      rintro e w3 ⟨⟨v, rfl⟩, k, rfl⟩
      have hrow : (w2.drewN k).heap[w1.heap.size]? = some (.cells (byteCells []).toArray 5) := by
        have h0 : cur = #[] := by apply Array.eq_empty_of_size_eq_zero; exact hcs
        rw [h0] at HB2; exact HB2.out
      have hcv := conv_row (cap := 0) [] hrow
      simp only [List.length_nil] at hcv
      have e0 : (⟨([] : List UInt8).toArray⟩ : ByteArray) = s.extract i (i + 0) := by
        apply bytes_inj; rw [ByteArray.data_extract, Array.toList_extract, List.extract_eq_take_drop]; simp
      rw [e0] at hcv
      have HP3 : Hid (Prd (w2.drewN k) g s (i + 0)) := HP2.out
      have HO3 : Hid (Only g w (w2.drewN k)) := HO2.out.drewN _
      clear hrow e0
      go_wp2_with fail
      go_ret
      refine ⟨?_, HP3.out, HO3.out⟩
      first | rfl | (simp; done) | trace_state
  · go_enter Tryd.func135, Tryd.ntmps135
    go_wp2_with fail
    refine Calls.mono (HL.out w HP.out) ?_
    rintro e w1 ⟨rfl, hb⟩
    have HP1 : Hid (Prd w1 g s i) := HP.out.below hb
    have HE1 : Hid (Eof w1) := HE.out.below hb
    have HO1 : Hid (Only g w w1) := Only.of_below hb
    have hz1 := hb.size
    clear hb HP HE
    have hmk := mkBytes L (by omega) w1
    go_wp2_with fail
    have HP2 : Hid (Prd (w1.alloc (.cells (madeCells #[.int .u8 0] L) 5)) g s i) := HP1.out.below ((Below.refl _ _).alloc (Nat.le_refl _) _)
    have HE2 : Hid (Eof (w1.alloc (.cells (madeCells #[.int .u8 0] L) 5))) := HE1.out.below ((Below.refl _ _).alloc (Nat.le_refl _) _)
    have HO2 : Hid (Only g w (w1.alloc (.cells (madeCells #[.int .u8 0] L) 5))) := HO1.out.alloc _
    have HB2 : Hid ((w1.alloc (.cells (madeCells #[.int .u8 0] L) 5)).heap[w1.heap.size]? = some (.cells (madeCells #[.int .u8 0] L) 5)) := get_new rfl
    have hcs : (madeCells #[.int .u8 0] L).size = L := size_madeCells _ _
    generalize madeCells #[.int .u8 0] L = cur at *
    generalize (w1.alloc (.cells cur 5)) = w2 at *
    clear hmk HP1 HE1 HO1
    by_cases hlt : i < s.size
    · refine (rread_some g w1.heap.size L s i cur w2 HS.out HP2.out (by have := HLL.out; omega) hlt HB2.out hcs (by omega)).mono ?_
      rintro e w3 ⟨⟨v, rfl⟩, hp, hrow, h2⟩
      have HP3 : Hid (Prd w3 g s (i + L)) := hp
      have HO3 : Hid (Only g w w3) := h2.below HO2.out (by omega)
      have hl : ((s.data.toList.drop i).take L).length = L := by have := HLL.out; simp; omega
      have hcv := conv_row (cap := L) _ hrow
      rw [hl, ext_lst] at hcv
      clear hp hrow h2 hl
      go_wp2_with fail
      go_ret
      exact ⟨rfl, HP3.out, HO3.out⟩
    · have hm0 : L = 0 := by have := HLL.out; omega
      subst hm0
      refine (rread_none g w1.heap.size s i w2 HS.out HP2.out hlt HE2.out).mono ?_
      rintro e w3 ⟨⟨v, rfl⟩, k, rfl⟩
      have hrow : (w2.drewN k).heap[w1.heap.size]? = some (.cells (byteCells []).toArray 5) := by
        have h0 : cur = #[] := by apply Array.eq_empty_of_size_eq_zero; exact hcs
        rw [h0] at HB2; exact HB2.out
      have hcv := conv_row (cap := 0) [] hrow
      simp only [List.length_nil] at hcv
      have e0 : (⟨([] : List UInt8).toArray⟩ : ByteArray) = s.extract i (i + 0) := by
        apply bytes_inj; rw [ByteArray.data_extract, Array.toList_extract, List.extract_eq_take_drop]; simp
      rw [e0] at hcv
      have HP3 : Hid (Prd (w2.drewN k) g s (i + 0)) := HP2.out
      have HO3 : Hid (Only g w (w2.drewN k)) := HO2.out.drewN _
      clear hrow e0
      go_wp2_with fail
      go_ret
      refine ⟨?_, HP3.out, HO3.out⟩
      first | rfl | (simp; done) | trace_state
theorem step_only {g : Nat} {w w1 w2 : World} (h : Only g w w1) (k : Only g w1 w2) : Only g w w2 := h.trans k
set_option maxHeartbeats 1000000 in
theorem rnumber_any (g : Nat) (s : ByteArray) (i k : Nat) (w : World) (hs : s.size ≤ 1048576) (hk1 : 1 ≤ k) (hk4 : k ≤ 4) (h : Prd w g s i) (he : Eof w) (hg : 3 ≠ g) :
    Calls Tryd.prog 134 #[.pointer (some ⟨g, 0, none⟩), .int .i64 k] w fun e w' => e = .returned (.int .i64 ((if k ≤ s.size - i then gt s i k else 0 : Nat) : Int)) ∧ Prd w' g s (i + min k (s.size - i)) ∧ Only g w w' := by
  have hi := h.1
  have HT : Hid (∀ W, Prd W g s i → Eof W → Calls Tryd.prog 135 #[.pointer (some ⟨g, 0, none⟩), .int .i64 k] W fun e w' => e = .returned (.string (s.extract i (i + min k (s.size - i)))) ∧ Prd w' g s (i + min k (s.size - i)) ∧ Only g W w') := fun W hp he => rtext_any g k s i W hs hp he hg
  have HN : Hid (∀ W, Calls Tryd.prog 151 #[.string (s.extract i (i + min k (s.size - i))), .int .i64 0, .int .i64 k] W fun e w' => ∃ b, e = .returned (.tuple #[.int .i64 ((if k ≤ s.size - i then gt s i k else 0 : Nat) : Int), .bool b]) ∧ w' = W) := fun W => by
    have hz : (s.extract i (i + min k (s.size - i))).size = min k (s.size - i) := by rw [ByteArray.size_extract]; omega
    have hsm : (s.extract i (i + min k (s.size - i))).size ≤ maxLen := by rw [hz]; unfold maxLen; omega
    by_cases hk : k ≤ s.size - i
    · rw [if_pos hk]
      refine (implNumGet_yes _ 0 k W hsm (by omega) (by omega) (by omega) (by rw [hz]; omega)).mono fun e w' ⟨h1, h2⟩ => ⟨true, ?_, h2⟩
      rw [h1]
      have e0 := gt_extP s i (i + min k (s.size - i)) 0 k (by omega)
      simp only [Nat.add_zero] at e0
      simp [e0]
    · rw [if_neg hk]
      refine (implNumGet_no _ 0 k W hsm (by rw [hz]; omega)).mono fun e w' ⟨h1, h2⟩ => ⟨false, by rw [h1]; rfl, h2⟩
  have HP : Hid (Prd w g s i) := h
  have HE : Hid (Eof w) := he
  generalize (if k ≤ s.size - i then gt s i k else 0) = r at *
  generalize min k (s.size - i) = m at *
  clear h he
  go_enter Tryd.func134, Tryd.ntmps134
  go_wp2_with fail
  refine Calls.mono (HT.out _ HP.out HE.out) ?_
  rintro e w1 ⟨rfl, hp, ho⟩
  have HP1 : Hid (Prd w1 g s (i + m)) := hp
  have HO1 : Hid (Only g w w1) := ho
  clear hp ho HP HE
  go_wp2_with fail
  refine Calls.mono (HN.out _) ?_
  rintro e w2 ⟨b, rfl, rfl⟩
  go_wp2_with fail
  go_ret
  exact ⟨rfl, HP1.out, HO1.out⟩
end Go.Proofs.YtgejiiaocgacmaaDoor
