/- spec.DownGet. -/
import Derived.Test.YtccpdadabndleaaDoorDgI
import Derived.Deep.RegionHeld2
namespace Go.Proofs.YtccpdadabndleaaDoor
open Go.ChangeShapes Go.WideShapes Go.ChangeAt Go.RowKit
set_option linter.unusedVariables false
theorem getD {w : World} {g : Nat} {o : Option Obj} (h : w.heap[g]? = o) : w.drew.heap[g]? = o := h
set_option maxRecDepth 100000 in
set_option maxHeartbeats 1000000 in
theorem specDownGet_no (t : ByteArray) (w : World) (h40 : ¬ t.size = 40) :
    Calls Tryd.prog 40 #[.string t] w fun e w' => e = .returned (.tuple #[.agg #[.int .i64 0, .int .i64 0, .int .i64 0, .int .i64 0, .int .i64 0, .string ⟨#[]⟩, .string ⟨#[]⟩], .bool false]) ∧ Below w.heap.size w w' := by
  have RES : Hid ((w.alloc (.cells #[.int .i64 0, .int .i64 0, .int .i64 0, .int .i64 0, .int .i64 0, .string ⟨#[]⟩, .string ⟨#[]⟩] 54)).heap[w.heap.size]? = some (.cells #[.int .i64 0, .int .i64 0, .int .i64 0, .int .i64 0, .int .i64 0, .string ⟨#[]⟩, .string ⟨#[]⟩] 54)) := get_new rfl
  have HB : Hid (Below w.heap.size w (w.alloc (.cells #[.int .i64 0, .int .i64 0, .int .i64 0, .int .i64 0, .int .i64 0, .string ⟨#[]⟩, .string ⟨#[]⟩] 54))) := (Below.refl _ _).alloc (Nat.le_refl _) _
  have hni : ¬ (t.size : Int) = 40 := by omega
  go_enter Tryd.func40, Tryd.ntmps40
  go_wp2_with fail
  exact bodyPost_ret (v := .tuple #[.agg #[.int .i64 0, .int .i64 0, .int .i64 0, .int .i64 0, .int .i64 0, .string ⟨#[]⟩, .string ⟨#[]⟩], .bool false]) (results_row_tmp Tryd.results40 _ _ (w.heap.size) 54 #[.int .i64 0, .int .i64 0, .int .i64 0, .int .i64 0, .int .i64 0, .string ⟨#[]⟩, .string ⟨#[]⟩] (0, 0) _ rfl RES.out Tryd.underlying54 rfl cellsDg _ rfl) rfl ⟨rfl, HB.out⟩
set_option maxRecDepth 100000 in
set_option maxHeartbeats 4000000 in
theorem specDownGet_in (t : ByteArray) (w : World) (h40 : t.size = 40) (h fs b2 b3 : Nat) (d f : ByteArray) (eh : gt t 0 2 = h) (ef : gt t 4 2 = fs) (e2 : byteAt t 2 = b2) (e3 : byteAt t 3 = b3) (ed : t.extract 6 34 = d) (eff : t.extract 34 38 = f) (hh : h < 65536) (hfs : fs < 65536) (q : Bool)
    (hq : q = decide (dnPut ((h : Int) / 16 % 1024) ((h : Int) / 2 % 8) (b2 : Nat) (b3 : Nat) ((fs : Int) % 2048) d f = t)) (V : Value) (hV0 : q = false → V = .agg #[.int .i64 0, .int .i64 0, .int .i64 0, .int .i64 0, .int .i64 0, .string ⟨#[]⟩, .string ⟨#[]⟩]) (hV1 : q = true → V = .agg #[.int .i64 ((h : Int) / 16 % 1024), .int .i64 ((h : Int) / 2 % 8), .int .i64 (b2 : Nat), .int .i64 (b3 : Nat), .int .i64 ((fs : Int) % 2048), .string d, .string f]) :
    Calls Tryd.prog 40 #[.string t] w fun e w' => e = .returned (.tuple #[V, .bool q]) ∧ Below w.heap.size w w' := by
  have RES : Hid ((w.alloc (.cells #[.int .i64 0, .int .i64 0, .int .i64 0, .int .i64 0, .int .i64 0, .string ⟨#[]⟩, .string ⟨#[]⟩] 54)).heap[w.heap.size]? = some (.cells #[.int .i64 0, .int .i64 0, .int .i64 0, .int .i64 0, .int .i64 0, .string ⟨#[]⟩, .string ⟨#[]⟩] 54)) := get_new rfl
  have HB : Hid (Below w.heap.size w (w.alloc (.cells #[.int .i64 0, .int .i64 0, .int .i64 0, .int .i64 0, .int .i64 0, .string ⟨#[]⟩, .string ⟨#[]⟩] 54))) := (Below.refl _ _).alloc (Nat.le_refl _) _
  have hni : (t.size : Int) = 40 := by omega
  have hd : d.size ≤ maxLen := by rw [← ed, ByteArray.size_extract]; unfold maxLen; omega
  have hf : f.size ≤ maxLen := by rw [← eff, ByteArray.size_extract]; unfold maxLen; omega
  have H1 : Hid (∀ W, Calls Tryd.prog 51 #[.string t, .int .i64 0, .int .i64 2] W fun e w' => e = .returned (.int .i64 (h : Nat)) ∧ w' = W) := fun W => by
    rw [← eh]; exact l1Get_any t 0 2 W (by unfold maxLen; omega) (by decide) (by omega)
  have H4 : Hid (∀ W, Calls Tryd.prog 51 #[.string t, .int .i64 4, .int .i64 2] W fun e w' => e = .returned (.int .i64 (fs : Nat)) ∧ w' = W) := fun W => by
    rw [← ef]; exact l1Get_any t 4 2 W (by unfold maxLen; omega) (by decide) (by omega)
  have HP : Hid (∀ W, Calls Tryd.prog 37 #[.agg #[.int .i64 ((h : Int) / 16 % 1024), .int .i64 ((h : Int) / 2 % 8), .int .i64 (b2 : Nat), .int .i64 (b3 : Nat), .int .i64 ((fs : Int) % 2048), .string d, .string f]] W fun e w' => e = .returned (.string (dnPut ((h : Int) / 16 % 1024) ((h : Int) / 2 % 8) (b2 : Nat) (b3 : Nat) ((fs : Int) % 2048) d f)) ∧ Below W.heap.size W w') := fun W => specDownPut_any _ _ _ _ _ _ _ W hd hf
  have l2 : b2 < 256 := e2 ▸ byteAt_lt t 2
  have l3 : b3 < 256 := e3 ▸ byteAt_lt t 3
  have x2 : ∀ hh : 2 < t.size, (t[2]'hh).toNat = b2 := fun hh => by rw [← e2]; exact byteAt_eq t 2 hh
  have x3 : ∀ hh : 3 < t.size, (t[3]'hh).toNat = b3 := fun hh => by rw [← e3]; exact byteAt_eq t 3 hh
  have i2 : (2 : Int) < (t.size : Int) := by omega
  have i3 : (3 : Int) < (t.size : Int) := by omega
  have i34 : (34 : Int) ≤ (t.size : Int) := by omega
  have i38 : (38 : Int) ≤ (t.size : Int) := by omega
  have v1 : IntKind.i64.wrap (b2 : Int) = (b2 : Int) := wrapI64 _ (by omega) (by omega)
  have v2 : IntKind.i64.wrap (b3 : Int) = (b3 : Int) := wrapI64 _ (by omega) (by omega)
  have v3 : IntKind.i64.wrap ((h : Int) / 16) = (h : Int) / 16 := wrapI64 _ (by omega) (by omega)
  have v4 : IntKind.i64.wrap ((h : Int) / 2) = (h : Int) / 2 := wrapI64 _ (by omega) (by omega)
  have ED : Hid _ := ed
  have EF : Hid _ := eff
  have HQ : Hid _ := hq
  have HV0 : Hid _ := hV0
  have HV1 : Hid _ := hV1
  clear eh ef e2 e3 ed eff hq hV0 hV1 hd hf
  go_enter Tryd.func40, Tryd.ntmps40
  go_wp2_with fail
  refine Calls.mono (H1.out _) ?_
  rintro e w1 ⟨rfl, hw⟩
  obtain rfl := hw.symm
  go_wp2_with fail
  generalize (w.alloc (.cells #[.int .i64 0, .int .i64 0, .int .i64 0, .int .i64 0, .int .i64 0, .string ⟨#[]⟩, .string ⟨#[]⟩] 54)) = w2 at *
  clear H1
  go_region_held2 (fun _ => True) (trivial) ((go_at_call 51; refine Calls.mono (H4.out _) ?_; rintro e w8 ⟨rfl, rfl⟩))
  all_goals (try simp only [v1, v2, v3, v4])
  all_goals (clear v1 v2 v3 v4 x2 x3 i2 i3 i34 i38 l2 l3)
  all_goals
    go_wp2_with fail
    rw [ED.out, EF.out]
    have HX2 : Hid (((w2.alloc (.cells #[.int .i64 ((h : Int) / 16 % 1024), .int .i64 ((h : Int) / 2 % 8), .int .i64 (b2 : Nat), .int .i64 (b3 : Nat), .int .i64 ((fs : Int) % 2048), .string d, .string f] 54)).drew).heap[w2.heap.size]? = some (.cells #[.int .i64 ((h : Int) / 16 % 1024), .int .i64 ((h : Int) / 2 % 8), .int .i64 (b2 : Nat), .int .i64 (b3 : Nat), .int .i64 ((fs : Int) % 2048), .string d, .string f] 54)) := getD (get_new rfl)
    have HG3 : Hid (((w2.alloc (.cells #[.int .i64 ((h : Int) / 16 % 1024), .int .i64 ((h : Int) / 2 % 8), .int .i64 (b2 : Nat), .int .i64 (b3 : Nat), .int .i64 ((fs : Int) % 2048), .string d, .string f] 54)).drew).heap[w.heap.size]? = some (.cells #[.int .i64 0, .int .i64 0, .int .i64 0, .int .i64 0, .int .i64 0, .string ⟨#[]⟩, .string ⟨#[]⟩] 54)) := getD (get_allocS RES.out)
    have HB3 : Hid (Below w.heap.size w ((w2.alloc (.cells #[.int .i64 ((h : Int) / 16 % 1024), .int .i64 ((h : Int) / 2 % 8), .int .i64 (b2 : Nat), .int .i64 (b3 : Nat), .int .i64 ((fs : Int) % 2048), .string d, .string f] 54)).drew)) := (HB.out.alloc HB.out.size _).drew
    generalize ((w2.alloc (.cells #[.int .i64 ((h : Int) / 16 % 1024), .int .i64 ((h : Int) / 2 % 8), .int .i64 (b2 : Nat), .int .i64 (b3 : Nat), .int .i64 ((fs : Int) % 2048), .string d, .string f] 54)).drew) = wr at *
    refine Calls.mono (HP.out _) ?_
    rintro e w9 ⟨rfl, hb⟩
    have HT9 : Hid (w9.heap[w2.heap.size]? = some (.cells #[.int .i64 ((h : Int) / 16 % 1024), .int .i64 ((h : Int) / 2 % 8), .int .i64 (b2 : Nat), .int .i64 (b3 : Nat), .int .i64 ((fs : Int) % 2048), .string d, .string f] 54)) := get_below hb HX2.out (size_of_get HX2.out)
    have HG9 : Hid (w9.heap[w.heap.size]? = some (.cells #[.int .i64 0, .int .i64 0, .int .i64 0, .int .i64 0, .int .i64 0, .string ⟨#[]⟩, .string ⟨#[]⟩] 54)) := get_below hb HG3.out (size_of_get HG3.out)
    have HB9 : Hid (Below w.heap.size w w9) := HB3.out.trans (hb.mono HB3.out.size)
    clear hb HX2 HG3 HB3 HP RES HB
    have q1 := HQ.out
    generalize dnPut ((h : Int) / 16 % 1024) ((h : Int) / 2 % 8) (b2 : Nat) (b3 : Nat) ((fs : Int) % 2048) d f = put at *
    obtain ⟨r0, r1, r2, r3, r4, r5, r6⟩ := cells7_of HG9.out
    obtain ⟨t0, t1, t2, t3, t4, t5, t6⟩ := cells7_of HT9.out
    have fz : ∀ j, w9.frozen? ⟨w.heap.size, j, none⟩ = false := fun j => frozen_get HG9.out
    have hl9 := size_of_get HT9.out
    cases q with
    | false =>
      have hne0 : (put.toList == t.toList) = false := by
        rw [beqP]; exact q1.symm
      have hne : (put.toList != t.toList) = true := by
        unfold bne; rw [beqP, ← q1]; rfl
      have F1 : Hid _ := HV0.out rfl
      clear q1 HQ HV0 HV1
      go_wp2_with fail
      refine bodyPost_ret (v := .tuple #[.agg #[.int .i64 0, .int .i64 0, .int .i64 0, .int .i64 0, .int .i64 0, .string ⟨#[]⟩, .string ⟨#[]⟩], .bool false]) (results_row_tmp Tryd.results40 _ _ (w.heap.size) 54 #[.int .i64 0, .int .i64 0, .int .i64 0, .int .i64 0, .int .i64 0, .string ⟨#[]⟩, .string ⟨#[]⟩] (0, 0) _ rfl ?_ Tryd.underlying54 rfl cellsDg _ rfl) rfl ⟨by rw [F1.out], ?_⟩
      · exact get_set (get_set (get_set (get_set (get_set (get_set (get_set (HG9.out) rfl) rfl) rfl) rfl) rfl) rfl) rfl
      · exact belowS (belowS (belowS (belowS (belowS (belowS (belowS (HB9.out) (by omega)) (by omega)) (by omega)) (by omega)) (by omega)) (by omega)) (by omega)
    | true =>
      have hne0 : (put.toList == t.toList) = true := by
        rw [beqP]; exact q1.symm
      have hne : (put.toList != t.toList) = false := by
        unfold bne; rw [beqP, ← q1]; rfl
      have F1 : Hid _ := HV1.out rfl
      clear q1 HQ HV0 HV1
      go_wp2_with fail
      refine bodyPost_ret (v := .tuple #[.agg #[.int .i64 ((h : Int) / 16 % 1024), .int .i64 ((h : Int) / 2 % 8), .int .i64 (b2 : Nat), .int .i64 (b3 : Nat), .int .i64 ((fs : Int) % 2048), .string d, .string f], .bool true]) (results_row_tmp Tryd.results40 _ _ (w.heap.size) 54 #[.int .i64 ((h : Int) / 16 % 1024), .int .i64 ((h : Int) / 2 % 8), .int .i64 (b2 : Nat), .int .i64 (b3 : Nat), .int .i64 ((fs : Int) % 2048), .string d, .string f] (0, 0) _ rfl ?_ Tryd.underlying54 rfl cellsDg _ rfl) rfl ⟨by rw [F1.out], ?_⟩
      · exact get_set (get_set (get_set (get_set (get_set (get_set (get_set (HG9.out) rfl) rfl) rfl) rfl) rfl) rfl) rfl
      · exact belowS (belowS (belowS (belowS (belowS (belowS (belowS (HB9.out) (by omega)) (by omega)) (by omega)) (by omega)) (by omega)) (by omega)) (by omega)
theorem specDownGet_any (t : ByteArray) (w : World) :
    Calls Tryd.prog 40 #[.string t] w fun e w' => e = .returned (.tuple #[dgV t, .bool (dgOk t)]) ∧ Below w.heap.size w w' := by
  by_cases h40 : t.size = 40
  · have hs : dgOk t = decide (dgPut t = t) := by unfold dgOk; rw [decide_eq_true h40, Bool.true_and]
    refine specDownGet_in t w h40 _ _ _ _ _ _ rfl rfl rfl rfl rfl rfl (gt_lt t 0 2) (gt_lt t 4 2) (dgOk t) hs (dgV t) (fun h => dgV_no h) (fun h => ?_)
    unfold dgV; rw [if_pos h]
  · have hs : dgOk t = false := by unfold dgOk; rw [decide_eq_false h40]; rfl
    rw [dgV_no hs, hs]
    exact specDownGet_no t w h40
end Go.Proofs.YtccpdadabndleaaDoor
