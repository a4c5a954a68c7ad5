/- The reader of packets: newPackReader, packet. -/
import Derived.Test.YtgejiiaocgacmaaDoorRdP
import Derived.Deep.RegionHeld2
namespace Go.Proofs.YtgejiiaocgacmaaDoor
open Go.ChangeShapes Go.WideShapes Go.ChangeAt Go.RowKit
set_option linter.unusedVariables false
theorem and_twoP (n i : Nat) : n &&& 2 ^ i = if n.testBit i = true then 2 ^ i else 0 := by
  apply Nat.eq_of_testBit_eq
  intro j
  rw [Nat.testBit_and, Nat.testBit_two_pow]
  by_cases h : i = j
  · subst h
    cases hb : n.testBit i <;> simp
  · cases hb : n.testBit i <;> simp [h]
theorem bitP_at (n i : Nat) : (((n &&& 2 ^ i : Nat) : Int) != 0) = decide (n / 2 ^ i % 2 = 1) := by
  rw [and_twoP, Nat.testBit_eq_decide_div_mod_eq]
  have hp := Nat.two_pow_pos i
  by_cases h : n / 2 ^ i % 2 = 1
  · simp [h]
    have : ((2 ^ i : Nat) : Int) ≠ 0 := by omega
    simpa using this
  · simp [h]
theorem lowP_at (n i : Nat) : n &&& (2 ^ i - 1) = n % 2 ^ i := Nat.and_two_pow_sub_one_eq_mod n i
theorem getOP {g b : Nat} {W0 W : World} {o : Obj} (h : Only g W0 W) (k : W0.heap[b]? = some o) (e : b ≠ g) : W.heap[b]? = some o := (h.block b (size_of_get k) e).trans k
theorem onlyWP {g b j : Nat} {c : Value} {w W : World} (h : Only g w W) (hb : w.heap.size ≤ b) : Only g w (W.setCell ⟨b, j, none⟩ c) :=
  ⟨h.os, h.tape, h.output, by simpa [World.setCell] using h.size, fun k hk hn => (Below.heap_setCell _ _ _ _ (by simp; omega)).trans (h.block k hk hn)⟩
theorem Prd.set {w : World} {g b j : Nat} {s : ByteArray} {i : Nat} {c : Value} (h : Prd w g s i) (e : g ≠ b) : Prd (w.setCell ⟨b, j, none⟩ c) g s i := by
  obtain ⟨h1, pr, hg⟩ := h
  exact ⟨h1, pr, get_set_ne hg e⟩
set_option maxHeartbeats 1000000 in
theorem reset_any (g : Nat) (s : ByteArray) (c0 c1 c2 : Value) (w : World) (hg : w.heap[g]? = some (.cells #[c0, c1, c2] 175)) :
    Calls Tryd.prog 133 #[.pointer (some ⟨g, 0, none⟩), .string s] w fun e w' => e = .returned (.tuple #[]) ∧ Prd w' g s 0 ∧ Only g w w' := by
  obtain ⟨k0, k1, k2⟩ := cells3P hg
  have fz : ∀ j, w.frozen? ⟨g, j, none⟩ = false := fun j => frozen_get hg
  have HG : Hid _ := hg
  clear hg
  go_enter Tryd.func133, Tryd.ntmps133
  go_wp2_with fail
  exact ⟨rfl, .tuple #[], results_none Tryd.results133 _ _ _, rfl, ⟨Nat.zero_le _, -1, get_set (get_set (get_set HG.out rfl) rfl) rfl⟩, (((Only.refl _ _).setCell _ _).setCell _ _).setCell _ _⟩
set_option maxHeartbeats 1000000 in
theorem newReader_any (s : ByteArray) (w : World) :
    Calls Tryd.prog 105 #[.string s] w fun e w' => e = .returned (.pointer (some ⟨w.heap.size, 0, none⟩)) ∧ Prd w' w.heap.size s 0 ∧ Below w.heap.size w w' := by
  have HG : Hid ((w.alloc (.cells #[.string ⟨#[]⟩, .int .i64 0, .int .i64 0] 175)).heap[w.heap.size]? = some (.cells #[.string ⟨#[]⟩, .int .i64 0, .int .i64 0] 175)) := get_new rfl
  have HB : Hid (Below w.heap.size w (w.alloc (.cells #[.string ⟨#[]⟩, .int .i64 0, .int .i64 0] 175))) := (Below.refl _ _).alloc (Nat.le_refl _) _
  go_enter Tryd.func105, Tryd.ntmps105
  go_wp2_with fail
  refine (reset_any w.heap.size s _ _ _ _ HG.out).mono ?_
  rintro e w1 ⟨rfl, hp, ho⟩
  have HP : Hid (Prd w1 w.heap.size s 0) := hp
  have HB1 : Hid (Below w.heap.size w w1) := HB.out.trans (ho.below (Nat.le_refl _) (by simp))
  clear hp ho
  go_wp2_with fail
  go_ret
  exact ⟨rfl, HP.out, HB1.out⟩
theorem rtext1 (g n : Nat) (s : ByteArray) (i : Nat) (w : World) (hs : s.size ≤ 1048576) (h : Prd w g s i) (he : Eof w) (hg : 3 ≠ g) :
    Calls Tryd.prog 135 #[.pointer (some ⟨g, 0, none⟩), .int .i64 ((n : Int) + 1)] w fun e w' => e = .returned (.string (s.extract i (i + min (n + 1) (s.size - i)))) ∧ Prd w' g s (i + min (n + 1) (s.size - i)) ∧ Only g w w' :=
  rtext_any g (n + 1) s i w hs h he hg
set_option maxRecDepth 100000 in
theorem rnumber2 (g : Nat) (s : ByteArray) (i : Nat) (w : World) (hs : s.size ≤ 1048576) (h : Prd w g s i) (he : Eof w) (hg : 3 ≠ g) :
    Calls Tryd.prog 134 #[.pointer (some ⟨g, 0, none⟩), .int .i64 2] w fun e w' => e = .returned (.int .i64 ((if 2 ≤ s.size - i then gt s i 2 else 0 : Nat) : Int)) ∧ Prd w' g s (i + min 2 (s.size - i)) ∧ Only g w w' :=
  rnumber_any g s i 2 w hs (by decide) (by decide) h he hg
theorem cellsPk : (Tryd.prog.info? 79).map (·.size) = some 4 := by kernel_rfl
/-- What is read of a packet. -/
def pgR (s : ByteArray) (mark cnt : Nat) (d : ByteArray) : Prop := (6 ≤ s.size → mark = gt s 0 2 ∧ cnt = gt s 2 2 ∧ d = s.extract 6 (min (pgL s) s.size)) ∧ d.size ≤ s.size
theorem gtif (s : ByteArray) (i : Nat) : (if 2 ≤ s.size - i then gt s i 2 else 0) < 65536 := by
  have := gt_lt s i 2
  split
  · exact this
  · omega
theorem pgR_of {s : ByteArray} {v0 v1 v2 i1 i2 i3 : Nat} (ev0 : (if 2 ≤ s.size - 0 then gt s 0 2 else 0) = v0) (ei1 : 0 + min 2 (s.size - 0) = i1) (ev1 : (if 2 ≤ s.size - i1 then gt s i1 2 else 0) = v1) (ei2 : i1 + min 2 (s.size - i1) = i2)
    (ev2 : (if 2 ≤ s.size - i2 then gt s i2 2 else 0) = v2) (ei3 : i2 + min 2 (s.size - i2) = i3) : pgR s v0 v1 (s.extract i3 (i3 + min (v2 + 1) (s.size - i3))) ∧ v0 < 65536 ∧ v1 < 65536 := by
  have hif : ∀ (c : Prop) [Decidable c] (a : Nat), a < 65536 → (if c then a else 0) < 65536 := fun c _ a h => by split <;> omega
  have hlt : ∀ a, gt s a 2 < 65536 := fun a => gt_lt s a 2
  refine ⟨⟨fun h6 => ?_, by rw [ByteArray.size_extract]; omega⟩, ev0 ▸ hif _ _ (hlt 0), ev1 ▸ hif _ _ (hlt i1)⟩
  have a1 : i1 = 2 := by omega
  have a2 : i2 = 4 := by omega
  have a3 : i3 = 6 := by omega
  subst a1 a2 a3
  rw [if_pos (by omega)] at ev0 ev1 ev2
  refine ⟨ev0.symm, ev1.symm, ?_⟩
  have e : 6 + min (v2 + 1) (s.size - 6) = min (pgL s) s.size := by
    have hL : pgL s = v2 + 7 := by rw [← ev2]; rfl
    rw [hL]; omega
  rw [e]
set_option maxRecDepth 100000 in
set_option maxHeartbeats 2000000 in
theorem packet_any (g : Nat) (s : ByteArray) (w : World) (hs : s.size ≤ 1048576) (h : Prd w g s 0) (he : Eof w) (hg : 3 ≠ g) :
    Calls Tryd.prog 106 #[.pointer (some ⟨g, 0, none⟩)] w fun e w' => ∃ (mark cnt : Nat) (d : ByteArray), e = .returned (.agg #[.bool (decide (mark / 4096 % 2 = 1)), .int .i64 (mark % 2048 : Nat), .int .i64 (cnt % 16384 : Nat), .string d]) ∧ Only g w w' ∧ pgR s mark cnt d := by
  have hgl := h.lt
  have HS : Hid (s.size ≤ 1048576) := hs
  have HP : Hid (Prd (w.alloc (.cells #[.bool false, .int .i64 0, .int .i64 0, .string ⟨#[]⟩] 79)) g s 0) := h.below ((Below.refl _ _).alloc (Nat.le_refl _) _)
  have HE : Hid (Eof (w.alloc (.cells #[.bool false, .int .i64 0, .int .i64 0, .string ⟨#[]⟩] 79))) := he.below ((Below.refl _ _).alloc (Nat.le_refl _) _)
  have HG : Hid ((w.alloc (.cells #[.bool false, .int .i64 0, .int .i64 0, .string ⟨#[]⟩] 79)).heap[w.heap.size]? = some (.cells #[.bool false, .int .i64 0, .int .i64 0, .string ⟨#[]⟩] 79)) := get_new rfl
  have HO : Hid (Only g w (w.alloc (.cells #[.bool false, .int .i64 0, .int .i64 0, .string ⟨#[]⟩] 79))) := (Only.refl _ _).alloc _
  clear h he hs
  go_enter Tryd.func106, Tryd.ntmps106
  go_wp2_with fail
  refine (rnumber2 g s 0 _ HS.out HP.out HE.out hg).mono ?_
  rintro e w1 ⟨rfl, hp, ho⟩
  have HG : Hid (w1.heap[w.heap.size]? = some (.cells #[.bool false, .int .i64 0, .int .i64 0, .string ⟨#[]⟩] 79)) := getOP ho HG.out (by omega)
  have HE : Hid (Eof w1) := HE.out.only ho hg
  have HO : Hid (Only g w w1) := HO.out.trans ho
  have HP : Hid (Prd w1 g s (0 + min 2 (s.size - 0))) := hp
  clear hp ho
  have hv0 := gtif s 0
  generalize ev0 : (if 2 ≤ s.size - 0 then gt s 0 2 else 0) = v0 at *
  generalize ei1 : 0 + min 2 (s.size - 0) = i1 at *
  go_wp2_with fail
  refine (rnumber2 g s i1 _ HS.out HP.out HE.out hg).mono ?_
  rintro e w2 ⟨rfl, hp, ho⟩
  have HG : Hid (w2.heap[w.heap.size]? = some (.cells #[.bool false, .int .i64 0, .int .i64 0, .string ⟨#[]⟩] 79)) := getOP ho HG.out (by omega)
  have HE : Hid (Eof w2) := HE.out.only ho hg
  have HO : Hid (Only g w w2) := HO.out.trans ho
  have HP : Hid (Prd w2 g s (i1 + min 2 (s.size - i1))) := hp
  clear hp ho
  have hv1 := gtif s i1
  generalize ev1 : (if 2 ≤ s.size - i1 then gt s i1 2 else 0) = v1 at *
  generalize ei2 : i1 + min 2 (s.size - i1) = i2 at *
  go_wp2_with fail
  refine (rnumber2 g s i2 _ HS.out HP.out HE.out hg).mono ?_
  rintro e w3 ⟨rfl, hp, ho⟩
  have HG : Hid (w3.heap[w.heap.size]? = some (.cells #[.bool false, .int .i64 0, .int .i64 0, .string ⟨#[]⟩] 79)) := getOP ho HG.out (by omega)
  have HE : Hid (Eof w3) := HE.out.only ho hg
  have HO : Hid (Only g w w3) := HO.out.trans ho
  have HP : Hid (Prd w3 g s (i2 + min 2 (s.size - i2))) := hp
  clear hp ho
  have hv2 := gtif s i2
  generalize ev2 : (if 2 ≤ s.size - i2 then gt s i2 2 else 0) = v2 at *
  generalize ei3 : i2 + min 2 (s.size - i2) = i3 at *
  go_wp2_with fail
  refine (rtext1 g v2 s i3 _ HS.out HP.out HE.out hg).mono ?_
  rintro e w4 ⟨rfl, hp, ho⟩
  have HG : Hid (w4.heap[w.heap.size]? = some (.cells #[.bool false, .int .i64 0, .int .i64 0, .string ⟨#[]⟩] 79)) := getOP ho HG.out (by omega)
  have HO : Hid (Only g w w4) := HO.out.trans ho
  obtain ⟨hR, hl0, hl1⟩ := pgR_of ev0 ei1 ev1 ei2 ev2 ei3
  have HR : Hid _ := hR
  clear hR
  generalize s.extract i3 (i3 + min (v2 + 1) (s.size - i3)) = d at *
  clear hp ho ei1 ei2 ei3 ev0 ev1 ev2 HP HE
  have f1 : bits .and .i64 (v0 : Int) 4096 = ((v0 &&& 4096 : Nat) : Int) := i64_and v0 4096 (by omega) (by omega)
  have f2 : bits .and .i64 (v0 : Int) 2047 = ((v0 &&& 2047 : Nat) : Int) := i64_and v0 2047 (by omega) (by omega)
  have f3 : bits .and .i64 (v1 : Int) 16383 = ((v1 &&& 16383 : Nat) : Int) := i64_and v1 16383 (by omega) (by omega)
  have q1 : (((v0 &&& 4096 : Nat) : Int) != 0) = decide (v0 / 4096 % 2 = 1) := bitP_at v0 12
  have q2 : v0 &&& 2047 = v0 % 2048 := lowP_at v0 11
  have q3 : v1 &&& 16383 = v1 % 16384 := lowP_at v1 14
  obtain ⟨k0, k1, k2, k3⟩ := cells4_of HG.out
  have fz : ∀ j, w4.frozen? ⟨w.heap.size, j, none⟩ = false := fun j => frozen_get HG.out
  go_wp2_with fail
  refine bodyPost_ret (v := .agg #[.bool (decide (v0 / 4096 % 2 = 1)), .int .i64 ((v0 : Int) % 2048), .int .i64 ((v1 : Int) % 16384), .string d]) (results_cell_row Tryd.results106 _ _ (w.heap.size) 79 #[.bool (decide (v0 / 4096 % 2 = 1)), .int .i64 ((v0 : Int) % 2048), .int .i64 ((v1 : Int) % 16384), .string d] (0, 0) _ rfl ?_ Tryd.underlying79 rfl cellsPk) rfl ⟨v0, v1, d, rfl, ?_, HR.out⟩
  · exact get_set (get_set (get_set (get_set (HG.out) rfl) rfl) rfl) rfl
  · exact onlyWP (onlyWP (onlyWP (onlyWP (HO.out) (by omega)) (by omega)) (by omega)) (by omega)
end Go.Proofs.YtgejiiaocgacmaaDoor
