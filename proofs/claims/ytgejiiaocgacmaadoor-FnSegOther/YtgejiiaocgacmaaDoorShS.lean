/- What comes of a part, as data; spec.l7Hear, spec.SegHear. -/
import Derived.Test.YtgejiiaocgacmaaDoorJn
import Derived.Test.YtgejiiaocgacmaaDoorPgP
import Derived.Test.YtgejiiaocgacmaaDoorCellsN
import Derived.Test.YtgejiiaocgacmaaDoorQuB
import Derived.Deep.QuietTactic
import Derived.BigQuiet
import Derived.RegionTactic
import Derived.Deep.RegionHeld2
namespace Go.Proofs.YtgejiiaocgacmaaDoor
open Go.ChangeShapes Go.WideShapes Go.ChangeAt Go.RowKit
set_option linter.unusedVariables false

def shO (o : Bool) (fl : Nat) : Bool := if fl % 2 = 1 then true else o
def shT (d : ByteArray) (fl : Nat) : ByteArray := if fl % 2 = 1 then ⟨#[]⟩ else d
def shR (o : Bool) (d : ByteArray) (fl : Nat) (s : ByteArray) : Bool × ByteArray × ByteArray :=
  if shO o fl = true ∧ (shT d fl).size + s.size ≤ 106 then (if 2 ≤ fl then (false, ⟨#[]⟩, shT d fl ++ s) else (true, shT d fl ++ s, ⟨#[]⟩)) else (false, ⟨#[]⟩, ⟨#[]⟩)
def shV (o : Bool) (d p : ByteArray) (via : Int) : Bool × ByteArray × ByteArray :=
  if jnOk o d = true then (if 2 ≤ p.size ∧ p.size ≤ 21 ∧ ((byteAt p 0 % 64 : Nat) : Int) = via then shR o d (byteAt p 0 / 64) (p.extract 1 p.size) else (o, d, ⟨#[]⟩)) else (false, ⟨#[]⟩, ⟨#[]⟩)
def shA (r : Bool × ByteArray × ByteArray) : Value := .tuple #[.agg #[.bool r.1, .string r.2.1], .string r.2.2]
theorem jnOk_size {o : Bool} {d : ByteArray} (h : jnOk o d = true) : d.size ≤ 106 := by
  simp only [jnOk, Bool.and_eq_true, decide_eq_true_eq] at h
  omega
set_option maxRecDepth 100000 in
set_option maxHeartbeats 4000000 in
theorem l7Hear_any (o : Bool) (d : ByteArray) (fl : Nat) (s : ByteArray) (w : World) (hd : d.size ≤ 106) (hs : s.size ≤ 1048576) (hfl : fl < 4) :
    Calls Tryd.prog 56 #[.agg #[.bool o, .string d], .int .i64 fl, .string s] w fun e w' => e = .returned (shA (shR o d fl s)) ∧ Below w.heap.size w w' := by
  have hf : fl = 0 ∨ fl = 1 ∨ fl = 2 ∨ fl = 3 := by omega
  clear hfl
  have hl : d.size ≤ maxLen := Nat.le_trans hd (by unfold maxLen; omega)
  unfold maxLen at hl
  rcases hf with rfl | rfl | rfl | rfl
  · cases o
    · have h0 : True := trivial
      have HX : Hid (shR false d 0 s = (false, ⟨#[]⟩, ⟨#[]⟩)) := by show _ = _; unfold shR; rw [if_neg (fun h => by cases h.1)]
      have hg : Hid (∀ n, ((((w.alloc (.cells #[.bool false, .string d] 25)).alloc (.cells #[.bool false, .string ⟨#[]⟩] 25)).drewN n).heap[w.heap.size + 1]? = some (.cells #[.bool false, .string ⟨#[]⟩] 25))) := fun n => get_new (by simp)
      have hb : Hid (∀ n, Below w.heap.size w (((w.alloc (.cells #[.bool false, .string d] 25)).alloc (.cells #[.bool false, .string ⟨#[]⟩] 25)).drewN n)) := fun n => belowN (((Below.refl _ _).alloc (Nat.le_refl _) _).alloc (by simp) _) n
      go_enter Tryd.func56, Tryd.ntmps56
      go_wp2_with fail
      go_quiet ((go_at_call 70; exact Calls.quiet_of_same (l7Most_any _)))
      go_wp2_with fail
      refine bodyPost_ret (v := .tuple #[.agg #[.bool false, .string ⟨#[]⟩], .string ⟨#[]⟩]) (results_row_tmp Tryd.results56 _ _ (w.heap.size + 1) 25 #[.bool false, .string ⟨#[]⟩] (0, 0) _ rfl ?_ Tryd.underlying25 rfl cellsJoin _ rfl) rfl ⟨by rw [HX.out]; rfl, ?_⟩
      · exact get_set (get_set (hg.out _) rfl) rfl
      · exact belowS (belowS (hb.out _) (by omega)) (by omega)
    · by_cases h1 : d.size + s.size ≤ 106
      · have h2 : ¬ (106 : Int) < (d.size : Int) + (s.size : Int) := by omega
        have HX : Hid (shR true d 0 s = (true, (d ++ s), ⟨#[]⟩)) := by show _ = _; unfold shR; rw [if_pos ⟨rfl, h1⟩]; rfl
        clear h1
        have hg : Hid (∀ n, ((((w.alloc (.cells #[.bool true, .string d] 25)).alloc (.cells #[.bool false, .string ⟨#[]⟩] 25)).drewN n).heap[w.heap.size + 1]? = some (.cells #[.bool false, .string ⟨#[]⟩] 25))) := fun n => get_new (by simp)
        have hb : Hid (∀ n, Below w.heap.size w (((w.alloc (.cells #[.bool true, .string d] 25)).alloc (.cells #[.bool false, .string ⟨#[]⟩] 25)).drewN n)) := fun n => belowN (((Below.refl _ _).alloc (Nat.le_refl _) _).alloc (by simp) _) n
        go_enter Tryd.func56, Tryd.ntmps56
        go_wp2_with fail
        go_quiet ((go_at_call 70; exact Calls.quiet_of_same (l7Most_any _)))
        go_wp2_with fail
        refine bodyPost_ret (v := .tuple #[.agg #[.bool true, .string (d ++ s)], .string ⟨#[]⟩]) (results_row_tmp Tryd.results56 _ _ (w.heap.size + 1) 25 #[.bool true, .string (d ++ s)] (0, 0) _ rfl ?_ Tryd.underlying25 rfl cellsJoin _ rfl) rfl ⟨by rw [HX.out]; rfl, ?_⟩
        · exact get_set (get_set (get_set_ne (hg.out _) (by omega)) rfl) rfl
        · exact belowS (belowS (belowS (hb.out _) (by omega)) (by omega)) (by omega)
      · have h2 : (106 : Int) < (d.size : Int) + (s.size : Int) := by omega
        have HX : Hid (shR true d 0 s = (false, ⟨#[]⟩, ⟨#[]⟩)) := by show _ = _; unfold shR; rw [if_neg (fun h => h1 h.2)]
        clear h1
        have hg : Hid (∀ n, ((((w.alloc (.cells #[.bool true, .string d] 25)).alloc (.cells #[.bool false, .string ⟨#[]⟩] 25)).drewN n).heap[w.heap.size + 1]? = some (.cells #[.bool false, .string ⟨#[]⟩] 25))) := fun n => get_new (by simp)
        have hb : Hid (∀ n, Below w.heap.size w (((w.alloc (.cells #[.bool true, .string d] 25)).alloc (.cells #[.bool false, .string ⟨#[]⟩] 25)).drewN n)) := fun n => belowN (((Below.refl _ _).alloc (Nat.le_refl _) _).alloc (by simp) _) n
        go_enter Tryd.func56, Tryd.ntmps56
        go_wp2_with fail
        go_quiet ((go_at_call 70; exact Calls.quiet_of_same (l7Most_any _)))
        go_wp2_with fail
        refine bodyPost_ret (v := .tuple #[.agg #[.bool false, .string ⟨#[]⟩], .string ⟨#[]⟩]) (results_row_tmp Tryd.results56 _ _ (w.heap.size + 1) 25 #[.bool false, .string ⟨#[]⟩] (0, 0) _ rfl ?_ Tryd.underlying25 rfl cellsJoin _ rfl) rfl ⟨by rw [HX.out]; rfl, ?_⟩
        · exact get_set (get_set (hg.out _) rfl) rfl
        · exact belowS (belowS (hb.out _) (by omega)) (by omega)
  · by_cases h1 : (shT d 1).size + s.size ≤ 106
    · have h3 : (shT d 1).size = 0 := rfl
      have h2 : ¬ (106 : Int) < (s.size : Int) := by omega
      have HX : Hid (shR o d 1 s = (true, (⟨#[]⟩ ++ s), ⟨#[]⟩)) := by show _ = _; unfold shR; rw [if_pos ⟨rfl, h1⟩]; rfl
      clear h1
      have hg : Hid (∀ n, ((((w.alloc (.cells #[.bool true, .string ⟨#[]⟩] 25)).alloc (.cells #[.bool false, .string ⟨#[]⟩] 25)).drewN n).heap[w.heap.size + 1]? = some (.cells #[.bool false, .string ⟨#[]⟩] 25))) := fun n => get_new (by simp)
      have hb : Hid (∀ n, Below w.heap.size w (((w.alloc (.cells #[.bool true, .string ⟨#[]⟩] 25)).alloc (.cells #[.bool false, .string ⟨#[]⟩] 25)).drewN n)) := fun n => belowN (((Below.refl _ _).alloc (Nat.le_refl _) _).alloc (by simp) _) n
      go_enter Tryd.func56, Tryd.ntmps56
      go_wp2_with fail
      go_quiet ((go_at_call 70; exact Calls.quiet_of_same (l7Most_any _)))
      go_wp2_with fail
      refine bodyPost_ret (v := .tuple #[.agg #[.bool true, .string (⟨#[]⟩ ++ s)], .string ⟨#[]⟩]) (results_row_tmp Tryd.results56 _ _ (w.heap.size + 1) 25 #[.bool true, .string (⟨#[]⟩ ++ s)] (0, 0) _ rfl ?_ Tryd.underlying25 rfl cellsJoin _ rfl) rfl ⟨by rw [HX.out]; rfl, ?_⟩
      · exact get_set (get_set (get_set_ne (hg.out _) (by omega)) rfl) rfl
      · exact belowS (belowS (belowS (hb.out _) (by omega)) (by omega)) (by omega)
    · have h3 : (shT d 1).size = 0 := rfl
      have h2 : (106 : Int) < (s.size : Int) := by omega
      have HX : Hid (shR o d 1 s = (false, ⟨#[]⟩, ⟨#[]⟩)) := by show _ = _; unfold shR; rw [if_neg (fun h => h1 h.2)]
      clear h1
      have hg : Hid (∀ n, ((((w.alloc (.cells #[.bool true, .string ⟨#[]⟩] 25)).alloc (.cells #[.bool false, .string ⟨#[]⟩] 25)).drewN n).heap[w.heap.size + 1]? = some (.cells #[.bool false, .string ⟨#[]⟩] 25))) := fun n => get_new (by simp)
      have hb : Hid (∀ n, Below w.heap.size w (((w.alloc (.cells #[.bool true, .string ⟨#[]⟩] 25)).alloc (.cells #[.bool false, .string ⟨#[]⟩] 25)).drewN n)) := fun n => belowN (((Below.refl _ _).alloc (Nat.le_refl _) _).alloc (by simp) _) n
      go_enter Tryd.func56, Tryd.ntmps56
      go_wp2_with fail
      go_quiet ((go_at_call 70; exact Calls.quiet_of_same (l7Most_any _)))
      go_wp2_with fail
      refine bodyPost_ret (v := .tuple #[.agg #[.bool false, .string ⟨#[]⟩], .string ⟨#[]⟩]) (results_row_tmp Tryd.results56 _ _ (w.heap.size + 1) 25 #[.bool false, .string ⟨#[]⟩] (0, 0) _ rfl ?_ Tryd.underlying25 rfl cellsJoin _ rfl) rfl ⟨by rw [HX.out]; rfl, ?_⟩
      · exact get_set (get_set (hg.out _) rfl) rfl
      · exact belowS (belowS (hb.out _) (by omega)) (by omega)
  · cases o
    · have h0 : True := trivial
      have HX : Hid (shR false d 2 s = (false, ⟨#[]⟩, ⟨#[]⟩)) := by show _ = _; unfold shR; rw [if_neg (fun h => by cases h.1)]
      have hg : Hid (∀ n, ((((w.alloc (.cells #[.bool false, .string d] 25)).alloc (.cells #[.bool false, .string ⟨#[]⟩] 25)).drewN n).heap[w.heap.size + 1]? = some (.cells #[.bool false, .string ⟨#[]⟩] 25))) := fun n => get_new (by simp)
      have hb : Hid (∀ n, Below w.heap.size w (((w.alloc (.cells #[.bool false, .string d] 25)).alloc (.cells #[.bool false, .string ⟨#[]⟩] 25)).drewN n)) := fun n => belowN (((Below.refl _ _).alloc (Nat.le_refl _) _).alloc (by simp) _) n
      go_enter Tryd.func56, Tryd.ntmps56
      go_wp2_with fail
      go_quiet ((go_at_call 70; exact Calls.quiet_of_same (l7Most_any _)))
      go_wp2_with fail
      refine bodyPost_ret (v := .tuple #[.agg #[.bool false, .string ⟨#[]⟩], .string ⟨#[]⟩]) (results_row_tmp Tryd.results56 _ _ (w.heap.size + 1) 25 #[.bool false, .string ⟨#[]⟩] (0, 0) _ rfl ?_ Tryd.underlying25 rfl cellsJoin _ rfl) rfl ⟨by rw [HX.out]; rfl, ?_⟩
      · exact get_set (get_set (hg.out _) rfl) rfl
      · exact belowS (belowS (hb.out _) (by omega)) (by omega)
    · by_cases h1 : d.size + s.size ≤ 106
      · have h2 : ¬ (106 : Int) < (d.size : Int) + (s.size : Int) := by omega
        have HX : Hid (shR true d 2 s = (false, ⟨#[]⟩, (d ++ s))) := by show _ = _; unfold shR; rw [if_pos ⟨rfl, h1⟩]; rfl
        clear h1
        have hg : Hid (∀ n, ((((w.alloc (.cells #[.bool true, .string d] 25)).alloc (.cells #[.bool false, .string ⟨#[]⟩] 25)).drewN n).heap[w.heap.size + 1]? = some (.cells #[.bool false, .string ⟨#[]⟩] 25))) := fun n => get_new (by simp)
        have hb : Hid (∀ n, Below w.heap.size w (((w.alloc (.cells #[.bool true, .string d] 25)).alloc (.cells #[.bool false, .string ⟨#[]⟩] 25)).drewN n)) := fun n => belowN (((Below.refl _ _).alloc (Nat.le_refl _) _).alloc (by simp) _) n
        go_enter Tryd.func56, Tryd.ntmps56
        go_wp2_with fail
        go_quiet ((go_at_call 70; exact Calls.quiet_of_same (l7Most_any _)))
        go_wp2_with fail
        go_region
        go_wp2_with fail
        refine bodyPost_ret (v := .tuple #[.agg #[.bool false, .string ⟨#[]⟩], .string (d ++ s)]) (results_row_tmp Tryd.results56 _ _ (w.heap.size + 1) 25 #[.bool false, .string ⟨#[]⟩] (0, 0) _ rfl ?_ Tryd.underlying25 rfl cellsJoin _ rfl) rfl ⟨by rw [HX.out]; rfl, ?_⟩
        · exact get_set (get_set (get_set_ne (hg.out _) (by omega)) rfl) rfl
        · exact (belowS (belowS (belowS (hb.out _) (by omega)) (by omega)) (by omega)).drew
      · have h2 : (106 : Int) < (d.size : Int) + (s.size : Int) := by omega
        have HX : Hid (shR true d 2 s = (false, ⟨#[]⟩, ⟨#[]⟩)) := by show _ = _; unfold shR; rw [if_neg (fun h => h1 h.2)]
        clear h1
        have hg : Hid (∀ n, ((((w.alloc (.cells #[.bool true, .string d] 25)).alloc (.cells #[.bool false, .string ⟨#[]⟩] 25)).drewN n).heap[w.heap.size + 1]? = some (.cells #[.bool false, .string ⟨#[]⟩] 25))) := fun n => get_new (by simp)
        have hb : Hid (∀ n, Below w.heap.size w (((w.alloc (.cells #[.bool true, .string d] 25)).alloc (.cells #[.bool false, .string ⟨#[]⟩] 25)).drewN n)) := fun n => belowN (((Below.refl _ _).alloc (Nat.le_refl _) _).alloc (by simp) _) n
        go_enter Tryd.func56, Tryd.ntmps56
        go_wp2_with fail
        go_quiet ((go_at_call 70; exact Calls.quiet_of_same (l7Most_any _)))
        go_wp2_with fail
        refine bodyPost_ret (v := .tuple #[.agg #[.bool false, .string ⟨#[]⟩], .string ⟨#[]⟩]) (results_row_tmp Tryd.results56 _ _ (w.heap.size + 1) 25 #[.bool false, .string ⟨#[]⟩] (0, 0) _ rfl ?_ Tryd.underlying25 rfl cellsJoin _ rfl) rfl ⟨by rw [HX.out]; rfl, ?_⟩
        · exact get_set (get_set (hg.out _) rfl) rfl
        · exact belowS (belowS (hb.out _) (by omega)) (by omega)
  · by_cases h1 : (shT d 3).size + s.size ≤ 106
    · have h3 : (shT d 3).size = 0 := rfl
      have h2 : ¬ (106 : Int) < (s.size : Int) := by omega
      have HX : Hid (shR o d 3 s = (false, ⟨#[]⟩, (⟨#[]⟩ ++ s))) := by show _ = _; unfold shR; rw [if_pos ⟨rfl, h1⟩]; rfl
      clear h1
      have hg : Hid (∀ n, ((((w.alloc (.cells #[.bool true, .string ⟨#[]⟩] 25)).alloc (.cells #[.bool false, .string ⟨#[]⟩] 25)).drewN n).heap[w.heap.size + 1]? = some (.cells #[.bool false, .string ⟨#[]⟩] 25))) := fun n => get_new (by simp)
      have hb : Hid (∀ n, Below w.heap.size w (((w.alloc (.cells #[.bool true, .string ⟨#[]⟩] 25)).alloc (.cells #[.bool false, .string ⟨#[]⟩] 25)).drewN n)) := fun n => belowN (((Below.refl _ _).alloc (Nat.le_refl _) _).alloc (by simp) _) n
      go_enter Tryd.func56, Tryd.ntmps56
      go_wp2_with fail
      go_quiet ((go_at_call 70; exact Calls.quiet_of_same (l7Most_any _)))
      go_wp2_with fail
      go_region
      go_wp2_with fail
      refine bodyPost_ret (v := .tuple #[.agg #[.bool false, .string ⟨#[]⟩], .string (⟨#[]⟩ ++ s)]) (results_row_tmp Tryd.results56 _ _ (w.heap.size + 1) 25 #[.bool false, .string ⟨#[]⟩] (0, 0) _ rfl ?_ Tryd.underlying25 rfl cellsJoin _ rfl) rfl ⟨by rw [HX.out]; rfl, ?_⟩
      · exact get_set (get_set (get_set_ne (hg.out _) (by omega)) rfl) rfl
      · exact (belowS (belowS (belowS (hb.out _) (by omega)) (by omega)) (by omega)).drew
    · have h3 : (shT d 3).size = 0 := rfl
      have h2 : (106 : Int) < (s.size : Int) := by omega
      have HX : Hid (shR o d 3 s = (false, ⟨#[]⟩, ⟨#[]⟩)) := by show _ = _; unfold shR; rw [if_neg (fun h => h1 h.2)]
      clear h1
      have hg : Hid (∀ n, ((((w.alloc (.cells #[.bool true, .string ⟨#[]⟩] 25)).alloc (.cells #[.bool false, .string ⟨#[]⟩] 25)).drewN n).heap[w.heap.size + 1]? = some (.cells #[.bool false, .string ⟨#[]⟩] 25))) := fun n => get_new (by simp)
      have hb : Hid (∀ n, Below w.heap.size w (((w.alloc (.cells #[.bool true, .string ⟨#[]⟩] 25)).alloc (.cells #[.bool false, .string ⟨#[]⟩] 25)).drewN n)) := fun n => belowN (((Below.refl _ _).alloc (Nat.le_refl _) _).alloc (by simp) _) n
      go_enter Tryd.func56, Tryd.ntmps56
      go_wp2_with fail
      go_quiet ((go_at_call 70; exact Calls.quiet_of_same (l7Most_any _)))
      go_wp2_with fail
      refine bodyPost_ret (v := .tuple #[.agg #[.bool false, .string ⟨#[]⟩], .string ⟨#[]⟩]) (results_row_tmp Tryd.results56 _ _ (w.heap.size + 1) 25 #[.bool false, .string ⟨#[]⟩] (0, 0) _ rfl ?_ Tryd.underlying25 rfl cellsJoin _ rfl) rfl ⟨by rw [HX.out]; rfl, ?_⟩
      · exact get_set (get_set (hg.out _) rfl) rfl
      · exact belowS (belowS (hb.out _) (by omega)) (by omega)
end Go.Proofs.YtgejiiaocgacmaaDoor
