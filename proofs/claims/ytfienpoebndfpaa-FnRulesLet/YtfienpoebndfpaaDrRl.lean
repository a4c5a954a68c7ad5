/- The draw of rules, a mode and a command. -/
import Derived.Test.YtfienpoebndfpaaDrRu
import Derived.Test.YtfienpoebndfpaaDrCm
import Derived.Test.YtfienpoebndfpaaResX
namespace Go.Proofs.Ytfienpoebndfpaa
open Go.ChangeShapes Go.WideShapes Go.ChangeAt Go.RowKit
set_option linter.unusedVariables false
theorem cellsDrl : (Try.prog.info? 52).map (·.size) = some 6 := by kernel_rfl
theorem RuR.setne {w : World} {base b n cap g j : Nat} {v : Value} (h : RuR w base b n cap) (hg : g ≠ b) : RuR (w.setCell ⟨g, j, none⟩ v) base b n cap := by
  obtain ⟨cur, h1, h2, h3⟩ := h
  exact ⟨cur, h1, get_set_ne h2 hg.symm, h3⟩
theorem RuR.base {w : World} {base B b n cap : Nat} (h : RuR w base b n cap) (hB : B ≤ base) : RuR w B b n cap := by
  obtain ⟨cur, h1, h3⟩ := h
  exact ⟨cur, Nat.le_trans hB h1, h3⟩
theorem results_tmp2_row {P : Program} {fn : Func} {p q r : Tmp} {ty : TypeId} (h : fn.results = #[.tmp q, .tmp r, .cell p ty]) (tmps : Array Value) (w : World) (g : Nat) (t : TypeId) (cs : Array Value) (fr : Nat × Nat) (d : TypeDesc)
    (hp : tmps.getD p undef = .pointer (some ⟨g, 0, none⟩)) (hg : w.heap[g]? = some (.cells cs t fr))
    (hu : P.underlying ty = some d) (hd : (match d with | .struct _ | .array _ _ => true | _ => false) = true) (hi : (P.info? ty).map (·.size) = some cs.size) (v : Value) (hq : tmps.getD q undef = v) (u : Value) (hr : tmps.getD r undef = u) :
    (results fn tmps).run P w = .ok (.tuple #[v, u, .agg cs]) w := by
  have hp' : tmps[p]?.getD undef = .pointer (some ⟨g, 0, none⟩) := by simpa using hp
  have hq' : tmps[q]?.getD undef = v := by simpa using hq
  have hr' : tmps[r]?.getD undef = u := by simpa using hr
  simp [results, h, hp', hq', hr', asAddr, run_loadVar_row w g t ty cs fr d hg hu hd hi]
theorem RuR.at {w : World} {base b n cap : Nat} (h : RuR w base b n cap) {i : Nat} (hi : i < n) : ∃ (v0 v1 v2 v3 : Int) (v4 v5 : Bool), w.cell? ⟨b, i * 6, none⟩ = some (.int .i64 v0) ∧ w.cell? ⟨b, i * 6 + 1, none⟩ = some (.int .i64 v1) ∧ w.cell? ⟨b, i * 6 + 2, none⟩ = some (.int .i64 v2) ∧ w.cell? ⟨b, i * 6 + 3, none⟩ = some (.int .i64 v3) ∧ w.cell? ⟨b, i * 6 + 4, none⟩ = some (.bool v4) ∧ w.cell? ⟨b, i * 6 + 5, none⟩ = some (.bool v5) := by
  obtain ⟨cur, h1, h2, h3, h4, h5, h6⟩ := h
  obtain ⟨v0, v1, v2, v3, v4, v5, g0, g1, g2, g3, g4, g5⟩ := h6 i hi
  exact ⟨v0, v1, v2, v3, v4, v5, cell_get h2 g0, cell_get h2 g1, cell_get h2 g2, cell_get h2 g3, cell_get h2 g4, cell_get h2 g5⟩
set_option maxRecDepth 100000 in
set_option maxHeartbeats 1000000 in
theorem DrawRulesLet_any (a : Option Addr) (len cap : Nat) (zs : List Int) (w : World) (h : IsRow .u8 w a len cap zs) :
    Calls Try.prog 31 #[.slice a len cap] w fun e w' => ∃ (b n cp : Nat) (md c0 c1 c2 c3 c4 : Int) (x : ByteArray), e = .returned (.tuple #[.slice (some ⟨b, 0, none⟩) n cp, .int .i64 md, .agg #[.int .i64 c0, .int .i64 c1, .int .i64 c2, .int .i64 c3, .int .i64 c4, .string x]]) ∧ n ≤ 14 ∧ 0 ≤ md ∧ md ≤ 2 ∧ x.size ≤ 60 ∧ RuR w' w.heap.size b n cp ∧ Below w.heap.size w w' := by
  have H : Hid (IsRow .u8 (w.alloc (.cells #[.int .i64 0, .int .i64 0, .int .i64 0, .int .i64 0, .int .i64 0, .string ⟨#[]⟩] 52)) a len cap zs) := h.keep ((Below.refl _ _).alloc (Nat.le_refl _) _)
  clear h
  go_enter Try.func31, Try.ntmps31
  go_wp2_with fail
  refine (l1Open_any a len cap zs _ H.out).mono ?_
  rintro e w1 ⟨rfl, hb1, hr1⟩
  simp only [World.size_alloc] at hb1 hr1 ⊢
  obtain ⟨g, hgg⟩ : ∃ g, g = w.heap.size + 1 := ⟨_, rfl⟩
  rw [← hgg] at hr1 ⊢
  have RES : Hid (w1.heap[w.heap.size]? = some (.cells #[.int .i64 0, .int .i64 0, .int .i64 0, .int .i64 0, .int .i64 0, .string ⟨#[]⟩] 52)) := get_below hb1 (get_new rfl) (by simp)
  have HW : Hid (Only g w w1) := Only.of_below (((Below.refl _ _).alloc (Nat.le_refl _) _).trans (hb1.mono (by omega)))
  have HR : Hid (Rd (0 + 0) w1 g) := hr1
  have hg1 : g < w1.heap.size := HR.out.lt
  have hgl : w.heap.size < g := by omega
  clear hb1 hr1 H hgg
  go_wp2_with fail
  refine (l15Rules_any (0 + 0) g _ (by omega) HR.out).mono ?_
  rintro e w2 ⟨b, n, cp, rfl, hn, hru, ho, hr⟩
  replace RES : Hid (w2.heap[w.heap.size]? = some (.cells #[.int .i64 0, .int .i64 0, .int .i64 0, .int .i64 0, .int .i64 0, .string ⟨#[]⟩] 52)) := get_only ho RES.out (by omega)
  replace HW : Hid (Only g w w2) := HW.out.trans ho
  replace HR : Hid (Rd (0 + 200) w2 g) := hr
  have HRU : Hid (RuR w2 w1.heap.size b n cp) := hru
  clear ho hr hru
  have hg2 : g < w2.heap.size := HR.out.lt
  go_wp2_with fail
  refine (l15Cmd_any (0 + 200) g _ (by omega) HR.out).mono ?_
  rintro e w3 ⟨c0, c1, c2, c3, c4, x, hc0, hc1, hc2, hc3, hc4, hc5, hc6, hc7, hc8, hc9, hx, rfl, ho, hr⟩
  replace RES : Hid (w3.heap[w.heap.size]? = some (.cells #[.int .i64 0, .int .i64 0, .int .i64 0, .int .i64 0, .int .i64 0, .string ⟨#[]⟩] 52)) := get_only ho RES.out (by omega)
  replace HW : Hid (Only g w w3) := HW.out.trans ho
  replace HR : Hid (Rd (0 + 244) w3 g) := hr
  replace HRU : Hid (RuR w3 w1.heap.size b n cp) := HRU.out.only ho hg1
  clear ho hr
  have hg3 : g < w3.heap.size := HR.out.lt
  clear hc0 hc1 hc2 hc3 hc4 hc5 hc6 hc7 hc8 hc9
  have hblt : b < w3.heap.size := HRU.out.lt.2
  have hbge : w1.heap.size ≤ b := HRU.out.lt.1
  replace RES : Hid ((w3.alloc (.cells #[.int .i64 c0, .int .i64 c1, .int .i64 c2, .int .i64 c3, .int .i64 c4, .string x] 52)).heap[w.heap.size]? = some (.cells #[.int .i64 0, .int .i64 0, .int .i64 0, .int .i64 0, .int .i64 0, .string ⟨#[]⟩] 52)) := get_allocS RES.out
  replace HW : Hid (Only g w (w3.alloc (.cells #[.int .i64 c0, .int .i64 c1, .int .i64 c2, .int .i64 c3, .int .i64 c4, .string x] 52))) := HW.out.alloc _
  replace HR : Hid (Rd (0 + 244) (w3.alloc (.cells #[.int .i64 c0, .int .i64 c1, .int .i64 c2, .int .i64 c3, .int .i64 c4, .string x] 52)) g) := rdA HR.out
  have BOX : Hid ((w3.alloc (.cells #[.int .i64 c0, .int .i64 c1, .int .i64 c2, .int .i64 c3, .int .i64 c4, .string x] 52)).heap[w3.heap.size]? = some (.cells #[.int .i64 c0, .int .i64 c1, .int .i64 c2, .int .i64 c3, .int .i64 c4, .string x] 52)) := get_new rfl
  replace HRU : Hid (RuR (w3.alloc (.cells #[.int .i64 c0, .int .i64 c1, .int .i64 c2, .int .i64 c3, .int .i64 c4, .string x] 52)) w1.heap.size b n cp) := HRU.out.alloc _
  have hz3 : w.heap.size < w3.heap.size := by omega
  by_cases hn0 : n = 0
  · subst hn0
    go_wp2_with fail
    generalize (w3.alloc (.cells #[.int .i64 c0, .int .i64 c1, .int .i64 c2, .int .i64 c3, .int .i64 c4, .string x] 52)) = wt at *
    have hzt : w3.heap.size < wt.heap.size := size_of_get BOX.out
    have hgt : g < wt.heap.size := HR.out.lt
    have HKB : Hid (∀ W : World, W.heap[w3.heap.size]? = some (.cells #[.int .i64 c0, .int .i64 c1, .int .i64 c2, .int .i64 c3, .int .i64 c4, .string x] 52) → (fun W : World => W.cell? ⟨w3.heap.size, 0, none⟩ = some (.int .i64 c0) ∧ W.cell? ⟨w3.heap.size, 1, none⟩ = some (.int .i64 c1) ∧ W.cell? ⟨w3.heap.size, 2, none⟩ = some (.int .i64 c2) ∧ W.cell? ⟨w3.heap.size, 3, none⟩ = some (.int .i64 c3) ∧ W.cell? ⟨w3.heap.size, 4, none⟩ = some (.int .i64 c4) ∧ W.cell? ⟨w3.heap.size, 5, none⟩ = some (.string x)) W) := fun W hb => cells6_of hb
    have HRa : Hid (Rd (0 + 244) ((wt.alloc (.cells #[.int .i64 0, .int .i64 1, .int .i64 0, .int .i64 1, .int .i64 2] 3)).drew) g) := HR.out.below (Below.drew ((Below.refl _ _).alloc (Nat.le_refl _) _))
    have HI : Hid (Ints ((wt.alloc (.cells #[.int .i64 0, .int .i64 1, .int .i64 0, .int .i64 1, .int .i64 2] 3)).drew) wt.heap.size [0, 1, 0, 1, 2]) := intsNew (w := wt) rfl [0, 1, 0, 1, 2]
    have KP0 := HKB.out _ BOX.out
    have KP1 := HKB.out (wt.alloc (.cells #[.int .i64 0, .int .i64 1, .int .i64 0, .int .i64 1, .int .i64 2] 3)).drew (get_allocS BOX.out)
    go_region_held2 (fun W : World => W.cell? ⟨w3.heap.size, 0, none⟩ = some (.int .i64 c0) ∧ W.cell? ⟨w3.heap.size, 1, none⟩ = some (.int .i64 c1) ∧ W.cell? ⟨w3.heap.size, 2, none⟩ = some (.int .i64 c2) ∧ W.cell? ⟨w3.heap.size, 3, none⟩ = some (.int .i64 c3) ∧ W.cell? ⟨w3.heap.size, 4, none⟩ = some (.int .i64 c4) ∧ W.cell? ⟨w3.heap.size, 5, none⟩ = some (.string x)) (first | with_reducible assumption | exact KP0 | exact KP1 | exact KP3 | exact KP4) (first
      | (go_at_call 71
         refine (one_lit (0 + 244) g _ 5 5 [0, 1, 0, 1, 2] _ rfl (by omega) (by omega) (by omega) HRa.out (by omega) HI.out).mono ?_
         rintro e w9 ⟨md, hmd, rfl, ho, hr⟩
         have hmd2 : Hid (0 ≤ md ∧ md ≤ 2) := (show 0 ≤ md ∧ md ≤ 2 by simp only [List.mem_cons, List.not_mem_nil, or_false] at hmd; omega)
         have RES9 : Hid (w9.heap[w.heap.size]? = some (.cells #[.int .i64 0, .int .i64 0, .int .i64 0, .int .i64 0, .int .i64 0, .string ⟨#[]⟩] 52)) := get_only ho (get_allocS RES.out) (by omega)
         have BOX9 : Hid (w9.heap[w3.heap.size]? = some (.cells #[.int .i64 c0, .int .i64 c1, .int .i64 c2, .int .i64 c3, .int .i64 c4, .string x] 52)) := get_only ho (get_allocS BOX.out) (by omega)
         have HW9 : Hid (Only g w w9) := (Only.drew (HW.out.alloc _)).trans ho
         have HRU8 : RuR (wt.alloc (.cells #[.int .i64 0, .int .i64 1, .int .i64 0, .int .i64 1, .int .i64 2] 3)).drew w1.heap.size b 0 cp := HRU.out.alloc _
         have HRU9 : Hid (RuR w9 w1.heap.size b 0 cp) := HRU8.only ho hg1
         clear hmd ho hr HRU8
         obtain ⟨z0, z1, z2, z3, z4, z5⟩ := cells6_of RES9.out
         have zf : ∀ j, w9.frozen? ⟨w.heap.size, j, none⟩ = false := fun j => frozen_get RES9.out
         have KP3 := HKB.out w9 BOX9.out
         have KP4 := HKB.out ((((((w9.setCell ⟨w.heap.size, 0, none⟩ (.int .i64 c0)).setCell ⟨w.heap.size, 1, none⟩ (.int .i64 c1)).setCell ⟨w.heap.size, 2, none⟩ (.int .i64 c2)).setCell ⟨w.heap.size, 3, none⟩ (.int .i64 c3)).setCell ⟨w.heap.size, 4, none⟩ (.int .i64 c4)).setCell ⟨w.heap.size, 5, none⟩ (.string x)) (get_set_ne (get_set_ne (get_set_ne (get_set_ne (get_set_ne (get_set_ne (BOX9.out) (by omega)) (by omega)) (by omega)) (by omega)) (by omega)) (by omega))))
    go_wp2_with fail
    have HE : ((((((w9.setCell ⟨w.heap.size, 0, none⟩ (.int .i64 c0)).setCell ⟨w.heap.size, 1, none⟩ (.int .i64 c1)).setCell ⟨w.heap.size, 2, none⟩ (.int .i64 c2)).setCell ⟨w.heap.size, 3, none⟩ (.int .i64 c3)).setCell ⟨w.heap.size, 4, none⟩ (.int .i64 c4)).setCell ⟨w.heap.size, 5, none⟩ (.string x)).heap[w.heap.size]? = some (.cells #[.int .i64 c0, .int .i64 c1, .int .i64 c2, .int .i64 c3, .int .i64 c4, .string x] 52) := get_set (get_set (get_set (get_set (get_set (get_set (RES9.out) rfl) rfl) rfl) rfl) rfl) rfl
    refine bodyPost_ret (v := .tuple #[.slice (some ⟨b, 0, none⟩) 0 cp, .int .i64 md, .agg #[.int .i64 c0, .int .i64 c1, .int .i64 c2, .int .i64 c3, .int .i64 c4, .string x]]) (results_tmp2_row Try.results31 _ _ w.heap.size 52 #[.int .i64 c0, .int .i64 c1, .int .i64 c2, .int .i64 c3, .int .i64 c4, .string x] (0, 0) _ rfl HE Try.underlying52 rfl cellsDrl _ rfl _ rfl) rfl ⟨_, _, _, _, _, _, _, _, _, _, rfl, hn, hmd2.out.1, hmd2.out.2, hx, ?_, ?_⟩
    · exact (RuR.setne (RuR.setne (RuR.setne (RuR.setne (RuR.setne (RuR.setne (HRU9.out) (by omega)) (by omega)) (by omega)) (by omega)) (by omega)) (by omega)).base (by omega)
    · exact (onlyS (onlyS (onlyS (onlyS (onlyS (onlyS (HW9.out) (by omega)) (by omega)) (by omega)) (by omega)) (by omega)) (by omega)).below (by omega) (Nat.le_refl _)
  · have hn1 : 0 < n := by omega
    go_wp2_with fail
    refine (pickI (0 + 244) g 4 _ (by omega) (by omega) (by omega) HR.out).mono ?_
    rintro e w4 ⟨q, hq, rfl, ho, hr⟩
    replace RES : Hid (w4.heap[w.heap.size]? = some (.cells #[.int .i64 0, .int .i64 0, .int .i64 0, .int .i64 0, .int .i64 0, .string ⟨#[]⟩] 52)) := get_only ho RES.out (by omega)
    replace BOX : Hid (w4.heap[w3.heap.size]? = some (.cells #[.int .i64 c0, .int .i64 c1, .int .i64 c2, .int .i64 c3, .int .i64 c4, .string x] 52)) := get_only ho BOX.out (by omega)
    replace HW : Hid (Only g w w4) := HW.out.trans ho
    replace HR : Hid (Rd (0 + 245) w4 g) := hr
    replace HRU : Hid (RuR w4 w1.heap.size b n cp) := HRU.out.only ho hg1
    clear ho hr
    have hg4 : g < w4.heap.size := HR.out.lt
    have hq2 : q = 0 ∨ 0 < q := by omega
    rcases hq2 with rfl | hq2
    · go_wp2_with fail
      obtain ⟨wt, hwt⟩ : ∃ wt, w4 = wt := ⟨_, rfl⟩
      subst hwt
      have hzt : w3.heap.size < w4.heap.size := size_of_get BOX.out
      have hgt : g < w4.heap.size := HR.out.lt
      have HKB : Hid (∀ W : World, W.heap[w3.heap.size]? = some (.cells #[.int .i64 c0, .int .i64 c1, .int .i64 c2, .int .i64 c3, .int .i64 c4, .string x] 52) → (fun W : World => W.cell? ⟨w3.heap.size, 0, none⟩ = some (.int .i64 c0) ∧ W.cell? ⟨w3.heap.size, 1, none⟩ = some (.int .i64 c1) ∧ W.cell? ⟨w3.heap.size, 2, none⟩ = some (.int .i64 c2) ∧ W.cell? ⟨w3.heap.size, 3, none⟩ = some (.int .i64 c3) ∧ W.cell? ⟨w3.heap.size, 4, none⟩ = some (.int .i64 c4) ∧ W.cell? ⟨w3.heap.size, 5, none⟩ = some (.string x)) W) := fun W hb => cells6_of hb
      have HRa : Hid (Rd (0 + 245) ((w4.alloc (.cells #[.int .i64 0, .int .i64 1, .int .i64 0, .int .i64 1, .int .i64 2] 3)).drew) g) := HR.out.below (Below.drew ((Below.refl _ _).alloc (Nat.le_refl _) _))
      have HI : Hid (Ints ((w4.alloc (.cells #[.int .i64 0, .int .i64 1, .int .i64 0, .int .i64 1, .int .i64 2] 3)).drew) w4.heap.size [0, 1, 0, 1, 2]) := intsNew (w := w4) rfl [0, 1, 0, 1, 2]
      have KP0 := HKB.out _ BOX.out
      have KP1 := HKB.out (w4.alloc (.cells #[.int .i64 0, .int .i64 1, .int .i64 0, .int .i64 1, .int .i64 2] 3)).drew (get_allocS BOX.out)
      go_region_held2 (fun W : World => W.cell? ⟨w3.heap.size, 0, none⟩ = some (.int .i64 c0) ∧ W.cell? ⟨w3.heap.size, 1, none⟩ = some (.int .i64 c1) ∧ W.cell? ⟨w3.heap.size, 2, none⟩ = some (.int .i64 c2) ∧ W.cell? ⟨w3.heap.size, 3, none⟩ = some (.int .i64 c3) ∧ W.cell? ⟨w3.heap.size, 4, none⟩ = some (.int .i64 c4) ∧ W.cell? ⟨w3.heap.size, 5, none⟩ = some (.string x)) (first | with_reducible assumption | exact KP0 | exact KP1 | exact KP3 | exact KP4) (first
        | (go_at_call 71
           refine (one_lit (0 + 245) g _ 5 5 [0, 1, 0, 1, 2] _ rfl (by omega) (by omega) (by omega) HRa.out (by omega) HI.out).mono ?_
           rintro e w9 ⟨md, hmd, rfl, ho, hr⟩
           have hmd2 : Hid (0 ≤ md ∧ md ≤ 2) := (show 0 ≤ md ∧ md ≤ 2 by simp only [List.mem_cons, List.not_mem_nil, or_false] at hmd; omega)
           have RES9 : Hid (w9.heap[w.heap.size]? = some (.cells #[.int .i64 0, .int .i64 0, .int .i64 0, .int .i64 0, .int .i64 0, .string ⟨#[]⟩] 52)) := get_only ho (get_allocS RES.out) (by omega)
           have BOX9 : Hid (w9.heap[w3.heap.size]? = some (.cells #[.int .i64 c0, .int .i64 c1, .int .i64 c2, .int .i64 c3, .int .i64 c4, .string x] 52)) := get_only ho (get_allocS BOX.out) (by omega)
           have HW9 : Hid (Only g w w9) := (Only.drew (HW.out.alloc _)).trans ho
           have HRU8 : RuR (w4.alloc (.cells #[.int .i64 0, .int .i64 1, .int .i64 0, .int .i64 1, .int .i64 2] 3)).drew w1.heap.size b n cp := HRU.out.alloc _
           have HRU9 : Hid (RuR w9 w1.heap.size b n cp) := HRU8.only ho hg1
           clear hmd ho hr HRU8
           obtain ⟨z0, z1, z2, z3, z4, z5⟩ := cells6_of RES9.out
           have zf : ∀ j, w9.frozen? ⟨w.heap.size, j, none⟩ = false := fun j => frozen_get RES9.out
           have KP3 := HKB.out w9 BOX9.out
           have KP4 := HKB.out ((((((w9.setCell ⟨w.heap.size, 0, none⟩ (.int .i64 c0)).setCell ⟨w.heap.size, 1, none⟩ (.int .i64 c1)).setCell ⟨w.heap.size, 2, none⟩ (.int .i64 c2)).setCell ⟨w.heap.size, 3, none⟩ (.int .i64 c3)).setCell ⟨w.heap.size, 4, none⟩ (.int .i64 c4)).setCell ⟨w.heap.size, 5, none⟩ (.string x)) (get_set_ne (get_set_ne (get_set_ne (get_set_ne (get_set_ne (get_set_ne (BOX9.out) (by omega)) (by omega)) (by omega)) (by omega)) (by omega)) (by omega))))
      go_wp2_with fail
      have HE : ((((((w9.setCell ⟨w.heap.size, 0, none⟩ (.int .i64 c0)).setCell ⟨w.heap.size, 1, none⟩ (.int .i64 c1)).setCell ⟨w.heap.size, 2, none⟩ (.int .i64 c2)).setCell ⟨w.heap.size, 3, none⟩ (.int .i64 c3)).setCell ⟨w.heap.size, 4, none⟩ (.int .i64 c4)).setCell ⟨w.heap.size, 5, none⟩ (.string x)).heap[w.heap.size]? = some (.cells #[.int .i64 c0, .int .i64 c1, .int .i64 c2, .int .i64 c3, .int .i64 c4, .string x] 52) := get_set (get_set (get_set (get_set (get_set (get_set (RES9.out) rfl) rfl) rfl) rfl) rfl) rfl
      refine bodyPost_ret (v := .tuple #[.slice (some ⟨b, 0, none⟩) n cp, .int .i64 md, .agg #[.int .i64 c0, .int .i64 c1, .int .i64 c2, .int .i64 c3, .int .i64 c4, .string x]]) (results_tmp2_row Try.results31 _ _ w.heap.size 52 #[.int .i64 c0, .int .i64 c1, .int .i64 c2, .int .i64 c3, .int .i64 c4, .string x] (0, 0) _ rfl HE Try.underlying52 rfl cellsDrl _ rfl _ rfl) rfl ⟨_, _, _, _, _, _, _, _, _, _, rfl, hn, hmd2.out.1, hmd2.out.2, hx, ?_, ?_⟩
      · exact (RuR.setne (RuR.setne (RuR.setne (RuR.setne (RuR.setne (RuR.setne (HRU9.out) (by omega)) (by omega)) (by omega)) (by omega)) (by omega)) (by omega)).base (by omega)
      · exact (onlyS (onlyS (onlyS (onlyS (onlyS (onlyS (HW9.out) (by omega)) (by omega)) (by omega)) (by omega)) (by omega)) (by omega)).below (by omega) (Nat.le_refl _)
    · go_wp2_with fail
      refine (pickI (0 + 245) g ((n : Nat) : Int) _ (by omega) (by omega) (by omega) HR.out).mono ?_
      rintro e w5 ⟨i, hi, rfl, ho, hr⟩
      replace RES : Hid (w5.heap[w.heap.size]? = some (.cells #[.int .i64 0, .int .i64 0, .int .i64 0, .int .i64 0, .int .i64 0, .string ⟨#[]⟩] 52)) := get_only ho RES.out (by omega)
      replace BOX : Hid (w5.heap[w3.heap.size]? = some (.cells #[.int .i64 c0, .int .i64 c1, .int .i64 c2, .int .i64 c3, .int .i64 c4, .string x] 52)) := get_only ho BOX.out (by omega)
      replace HW : Hid (Only g w w5) := HW.out.trans ho
      replace HR : Hid (Rd (0 + 246) w5 g) := hr
      replace HRU : Hid (RuR w5 w1.heap.size b n cp) := HRU.out.only ho hg1
      clear ho hr
      have hg5 : g < w5.heap.size := HR.out.lt
      have hi1 : i < n := by omega
      have hi2 : (0 : Int) ≤ (i : Int) := by omega
      have hi3 : (i : Int) < (n : Int) := by omega
      obtain ⟨v0, v1, v2, v3, v4, v5, q0, q1, q2, q3, q4, q5⟩ := HRU.out.at hi1
      have hzb : w3.heap.size < w5.heap.size := size_of_get BOX.out
      have hneb : ¬ w3.heap.size = w5.heap.size := by omega
      have hneb2 : ¬ w5.heap.size = w3.heap.size := by omega
      obtain ⟨BOX_0, BOX_1, BOX_2, BOX_3, BOX_4, BOX_5⟩ := cells6_of BOX.out
      have BOX_f : ∀ j, w5.frozen? ⟨w3.heap.size, j, none⟩ = false := fun j => frozen_get BOX.out
      go_wp2_with fail
      replace RES : Hid ((((((((w5.setCell ⟨w3.heap.size, 0, none⟩ (.int .i64 v1)).setCell ⟨w3.heap.size, 1, none⟩ (.int .i64 0)).setCell ⟨w3.heap.size, 2, none⟩ (.int .i64 v0)).setCell ⟨w3.heap.size, 3, none⟩ (.int .i64 v2)).setCell ⟨w3.heap.size, 4, none⟩ (.int .i64 v3)).setCell ⟨w3.heap.size, 5, none⟩ (.string ⟨#[]⟩)).alloc (.cells #[.int .i64 v0, .int .i64 v1, .int .i64 v2, .int .i64 v3, .bool v4, .bool v5] 60)).heap[w.heap.size]? = some (.cells #[.int .i64 0, .int .i64 0, .int .i64 0, .int .i64 0, .int .i64 0, .string ⟨#[]⟩] 52)) := get_allocS (get_set_ne (get_set_ne (get_set_ne (get_set_ne (get_set_ne (get_set_ne (RES.out) (by omega)) (by omega)) (by omega)) (by omega)) (by omega)) (by omega))
      replace BOX : Hid ((((((((w5.setCell ⟨w3.heap.size, 0, none⟩ (.int .i64 v1)).setCell ⟨w3.heap.size, 1, none⟩ (.int .i64 0)).setCell ⟨w3.heap.size, 2, none⟩ (.int .i64 v0)).setCell ⟨w3.heap.size, 3, none⟩ (.int .i64 v2)).setCell ⟨w3.heap.size, 4, none⟩ (.int .i64 v3)).setCell ⟨w3.heap.size, 5, none⟩ (.string ⟨#[]⟩)).alloc (.cells #[.int .i64 v0, .int .i64 v1, .int .i64 v2, .int .i64 v3, .bool v4, .bool v5] 60)).heap[w3.heap.size]? = some (.cells #[.int .i64 v1, .int .i64 0, .int .i64 v0, .int .i64 v2, .int .i64 v3, .string ⟨#[]⟩] 52)) := get_allocS (get_set (get_set (get_set (get_set (get_set (get_set (BOX.out) rfl) rfl) rfl) rfl) rfl) rfl)
      replace HW : Hid (Only g w (((((((w5.setCell ⟨w3.heap.size, 0, none⟩ (.int .i64 v1)).setCell ⟨w3.heap.size, 1, none⟩ (.int .i64 0)).setCell ⟨w3.heap.size, 2, none⟩ (.int .i64 v0)).setCell ⟨w3.heap.size, 3, none⟩ (.int .i64 v2)).setCell ⟨w3.heap.size, 4, none⟩ (.int .i64 v3)).setCell ⟨w3.heap.size, 5, none⟩ (.string ⟨#[]⟩)).alloc (.cells #[.int .i64 v0, .int .i64 v1, .int .i64 v2, .int .i64 v3, .bool v4, .bool v5] 60))) := (onlyS (onlyS (onlyS (onlyS (onlyS (onlyS (HW.out) (by omega)) (by omega)) (by omega)) (by omega)) (by omega)) (by omega)).alloc _
      replace HR : Hid (Rd (0 + 246) (((((((w5.setCell ⟨w3.heap.size, 0, none⟩ (.int .i64 v1)).setCell ⟨w3.heap.size, 1, none⟩ (.int .i64 0)).setCell ⟨w3.heap.size, 2, none⟩ (.int .i64 v0)).setCell ⟨w3.heap.size, 3, none⟩ (.int .i64 v2)).setCell ⟨w3.heap.size, 4, none⟩ (.int .i64 v3)).setCell ⟨w3.heap.size, 5, none⟩ (.string ⟨#[]⟩)).alloc (.cells #[.int .i64 v0, .int .i64 v1, .int .i64 v2, .int .i64 v3, .bool v4, .bool v5] 60)) g) := rdA (rdS (rdS (rdS (rdS (rdS (rdS (HR.out) (by omega)) (by omega)) (by omega)) (by omega)) (by omega)) (by omega))
      replace HRU : Hid (RuR (((((((w5.setCell ⟨w3.heap.size, 0, none⟩ (.int .i64 v1)).setCell ⟨w3.heap.size, 1, none⟩ (.int .i64 0)).setCell ⟨w3.heap.size, 2, none⟩ (.int .i64 v0)).setCell ⟨w3.heap.size, 3, none⟩ (.int .i64 v2)).setCell ⟨w3.heap.size, 4, none⟩ (.int .i64 v3)).setCell ⟨w3.heap.size, 5, none⟩ (.string ⟨#[]⟩)).alloc (.cells #[.int .i64 v0, .int .i64 v1, .int .i64 v2, .int .i64 v3, .bool v4, .bool v5] 60)) w1.heap.size b n cp) := RuR.alloc (RuR.setne (RuR.setne (RuR.setne (RuR.setne (RuR.setne (RuR.setne (HRU.out) (by omega)) (by omega)) (by omega)) (by omega)) (by omega)) (by omega)) _
      clear q0 q1 q2 q3 q4 q5 BOX_0 BOX_1 BOX_2 BOX_3 BOX_4 BOX_5 BOX_f
      generalize (((((((w5.setCell ⟨w3.heap.size, 0, none⟩ (.int .i64 v1)).setCell ⟨w3.heap.size, 1, none⟩ (.int .i64 0)).setCell ⟨w3.heap.size, 2, none⟩ (.int .i64 v0)).setCell ⟨w3.heap.size, 3, none⟩ (.int .i64 v2)).setCell ⟨w3.heap.size, 4, none⟩ (.int .i64 v3)).setCell ⟨w3.heap.size, 5, none⟩ (.string ⟨#[]⟩)).alloc (.cells #[.int .i64 v0, .int .i64 v1, .int .i64 v2, .int .i64 v3, .bool v4, .bool v5] 60)) = wt at *
      have hzt : w3.heap.size < wt.heap.size := size_of_get BOX.out
      have hgt : g < wt.heap.size := HR.out.lt
      have HKB : Hid (∀ W : World, W.heap[w3.heap.size]? = some (.cells #[.int .i64 v1, .int .i64 0, .int .i64 v0, .int .i64 v2, .int .i64 v3, .string ⟨#[]⟩] 52) → (fun W : World => W.cell? ⟨w3.heap.size, 0, none⟩ = some (.int .i64 v1) ∧ W.cell? ⟨w3.heap.size, 1, none⟩ = some (.int .i64 0) ∧ W.cell? ⟨w3.heap.size, 2, none⟩ = some (.int .i64 v0) ∧ W.cell? ⟨w3.heap.size, 3, none⟩ = some (.int .i64 v2) ∧ W.cell? ⟨w3.heap.size, 4, none⟩ = some (.int .i64 v3) ∧ W.cell? ⟨w3.heap.size, 5, none⟩ = some (.string ⟨#[]⟩)) W) := fun W hb => cells6_of hb
      have HRa : Hid (Rd (0 + 246) ((wt.alloc (.cells #[.int .i64 0, .int .i64 1, .int .i64 0, .int .i64 1, .int .i64 2] 3)).drew) g) := HR.out.below (Below.drew ((Below.refl _ _).alloc (Nat.le_refl _) _))
      have HI : Hid (Ints ((wt.alloc (.cells #[.int .i64 0, .int .i64 1, .int .i64 0, .int .i64 1, .int .i64 2] 3)).drew) wt.heap.size [0, 1, 0, 1, 2]) := intsNew (w := wt) rfl [0, 1, 0, 1, 2]
      have KP0 := HKB.out _ BOX.out
      have KP1 := HKB.out (wt.alloc (.cells #[.int .i64 0, .int .i64 1, .int .i64 0, .int .i64 1, .int .i64 2] 3)).drew (get_allocS BOX.out)
      go_region_held2 (fun W : World => W.cell? ⟨w3.heap.size, 0, none⟩ = some (.int .i64 v1) ∧ W.cell? ⟨w3.heap.size, 1, none⟩ = some (.int .i64 0) ∧ W.cell? ⟨w3.heap.size, 2, none⟩ = some (.int .i64 v0) ∧ W.cell? ⟨w3.heap.size, 3, none⟩ = some (.int .i64 v2) ∧ W.cell? ⟨w3.heap.size, 4, none⟩ = some (.int .i64 v3) ∧ W.cell? ⟨w3.heap.size, 5, none⟩ = some (.string ⟨#[]⟩)) (first | with_reducible assumption | exact KP0 | exact KP1 | exact KP3 | exact KP4) (first
        | (go_at_call 71
           refine (one_lit (0 + 246) g _ 5 5 [0, 1, 0, 1, 2] _ rfl (by omega) (by omega) (by omega) HRa.out (by omega) HI.out).mono ?_
           rintro e w9 ⟨md, hmd, rfl, ho, hr⟩
           have hmd2 : Hid (0 ≤ md ∧ md ≤ 2) := (show 0 ≤ md ∧ md ≤ 2 by simp only [List.mem_cons, List.not_mem_nil, or_false] at hmd; omega)
           have RES9 : Hid (w9.heap[w.heap.size]? = some (.cells #[.int .i64 0, .int .i64 0, .int .i64 0, .int .i64 0, .int .i64 0, .string ⟨#[]⟩] 52)) := get_only ho (get_allocS RES.out) (by omega)
           have BOX9 : Hid (w9.heap[w3.heap.size]? = some (.cells #[.int .i64 v1, .int .i64 0, .int .i64 v0, .int .i64 v2, .int .i64 v3, .string ⟨#[]⟩] 52)) := get_only ho (get_allocS BOX.out) (by omega)
           have HW9 : Hid (Only g w w9) := (Only.drew (HW.out.alloc _)).trans ho
           have HRU8 : RuR (wt.alloc (.cells #[.int .i64 0, .int .i64 1, .int .i64 0, .int .i64 1, .int .i64 2] 3)).drew w1.heap.size b n cp := HRU.out.alloc _
           have HRU9 : Hid (RuR w9 w1.heap.size b n cp) := HRU8.only ho hg1
           clear hmd ho hr HRU8
           obtain ⟨z0, z1, z2, z3, z4, z5⟩ := cells6_of RES9.out
           have zf : ∀ j, w9.frozen? ⟨w.heap.size, j, none⟩ = false := fun j => frozen_get RES9.out
           have KP3 := HKB.out w9 BOX9.out
           have KP4 := HKB.out ((((((w9.setCell ⟨w.heap.size, 0, none⟩ (.int .i64 v1)).setCell ⟨w.heap.size, 1, none⟩ (.int .i64 0)).setCell ⟨w.heap.size, 2, none⟩ (.int .i64 v0)).setCell ⟨w.heap.size, 3, none⟩ (.int .i64 v2)).setCell ⟨w.heap.size, 4, none⟩ (.int .i64 v3)).setCell ⟨w.heap.size, 5, none⟩ (.string ⟨#[]⟩)) (get_set_ne (get_set_ne (get_set_ne (get_set_ne (get_set_ne (get_set_ne (BOX9.out) (by omega)) (by omega)) (by omega)) (by omega)) (by omega)) (by omega))))
      go_wp2_with fail
      have HE : ((((((w9.setCell ⟨w.heap.size, 0, none⟩ (.int .i64 v1)).setCell ⟨w.heap.size, 1, none⟩ (.int .i64 0)).setCell ⟨w.heap.size, 2, none⟩ (.int .i64 v0)).setCell ⟨w.heap.size, 3, none⟩ (.int .i64 v2)).setCell ⟨w.heap.size, 4, none⟩ (.int .i64 v3)).setCell ⟨w.heap.size, 5, none⟩ (.string ⟨#[]⟩)).heap[w.heap.size]? = some (.cells #[.int .i64 v1, .int .i64 0, .int .i64 v0, .int .i64 v2, .int .i64 v3, .string ⟨#[]⟩] 52) := get_set (get_set (get_set (get_set (get_set (get_set (RES9.out) rfl) rfl) rfl) rfl) rfl) rfl
      refine bodyPost_ret (v := .tuple #[.slice (some ⟨b, 0, none⟩) n cp, .int .i64 md, .agg #[.int .i64 v1, .int .i64 0, .int .i64 v0, .int .i64 v2, .int .i64 v3, .string ⟨#[]⟩]]) (results_tmp2_row Try.results31 _ _ w.heap.size 52 #[.int .i64 v1, .int .i64 0, .int .i64 v0, .int .i64 v2, .int .i64 v3, .string ⟨#[]⟩] (0, 0) _ rfl HE Try.underlying52 rfl cellsDrl _ rfl _ rfl) rfl ⟨_, _, _, _, _, _, _, _, _, _, rfl, hn, hmd2.out.1, hmd2.out.2, by decide, ?_, ?_⟩
      · exact (RuR.setne (RuR.setne (RuR.setne (RuR.setne (RuR.setne (RuR.setne (HRU9.out) (by omega)) (by omega)) (by omega)) (by omega)) (by omega)) (by omega)).base (by omega)
      · exact (onlyS (onlyS (onlyS (onlyS (onlyS (onlyS (HW9.out) (by omega)) (by omega)) (by omega)) (by omega)) (by omega)) (by omega)).below (by omega) (Nat.le_refl _)
end Go.Proofs.Ytfienpoebndfpaa
