/- impl.PacketGet. -/
import Derived.Test.YtgejiiaocgacmaaDoorPgI
import Derived.Test.YtgejiiaocgacmaaDoorFr
namespace Go.Proofs.YtgejiiaocgacmaaDoor
open Go.ChangeShapes Go.WideShapes Go.ChangeAt Go.RowKit
set_option linter.unusedVariables false

def preP (t p : ByteArray) : Bool := decide (p.size ≤ t.size) && decide (t.extract 0 p.size = p)
theorem beqP (x y : ByteArray) : (x.toList == y.toList) = decide (x = y) := by
  by_cases h : x = y
  · subst h; simp
  · have : x.toList ≠ y.toList := fun e => h (by rw [ByteArray.toList_eq, ByteArray.toList_eq] at e; exact bytes_inj e)
    simp [h, this]
set_option maxHeartbeats 1000000 in
theorem slHasPrefix_any (t p : ByteArray) (w : World) (ht : t.size ≤ 1048576) (hp : p.size ≤ 1048576) :
    Calls Tryd.prog 139 #[.string t, .string p] w fun e w' => e = .returned (.bool (preP t p)) ∧ w' = w := by
  by_cases h : p.size ≤ t.size
  · have hi : (p.size : Int) ≤ t.size := by omega
    cases hq : decide (t.extract 0 p.size = p) with
    | false =>
      have HX : Hid (preP t p = false) := by show _ = _; unfold preP; rw [hq, Bool.and_false]
      have hb : ((t.extract 0 p.size).toList == p.toList) = false := by rw [beqP]; exact hq
      clear hq
      go_enter Tryd.func139, Tryd.ntmps139
      go_wp2
      go_ret
      exact ⟨by rw [HX.out]; rfl, rfl⟩
    | true =>
      have HX : Hid (preP t p = true) := by show _ = _; unfold preP; rw [hq, decide_eq_true h]; rfl
      have hb : ((t.extract 0 p.size).toList == p.toList) = true := by rw [beqP]; exact hq
      clear hq
      go_enter Tryd.func139, Tryd.ntmps139
      go_wp2
      go_ret
      exact ⟨by rw [HX.out]; rfl, rfl⟩
  · have hi : ¬ (p.size : Int) ≤ t.size := by omega
    have HX : Hid (preP t p = false) := by show _ = _; unfold preP; rw [decide_eq_false h]; rfl
    go_enter Tryd.func139, Tryd.ntmps139
    go_wp2
    go_ret
    exact ⟨by rw [HX.out]; rfl, rfl⟩
theorem hasPrefixP (t p : ByteArray) (w : World) (ht : t.size ≤ 1048576) (hp : p.size ≤ 1048576) :
    Calls Tryd.prog 108 #[.string t, .string p] w fun e w' => e = .returned (.bool (preP t p)) ∧ w' = w := by
  have H : Hid (∀ W, Calls Tryd.prog 139 #[.string t, .string p] W fun e w' => e = .returned (.bool (preP t p)) ∧ w' = W) := fun W => slHasPrefix_any t p W ht hp
  go_enter Tryd.func108, Tryd.ntmps108
  go_wp2_with fail
  refine Calls.mono (H.out _) ?_
  rintro e w1 ⟨rfl, rfl⟩
  go_wp2_with fail
  go_ret
  exact ⟨rfl, rfl⟩
/-- The answer at a place. -/
def pgAt (t : ByteArray) (a : Int) : ByteArray := if 0 ≤ a ∧ a ≤ t.size then t.extract a.toNat t.size else ⟨#[]⟩
theorem pg_zero : pgOk ⟨#[]⟩ = false := by unfold pgOk; rfl
theorem pgV_no {s : ByteArray} (h : pgOk s = false) : pgV s = .agg #[.bool false, .int .i64 0, .int .i64 0, .string ⟨#[]⟩] ∧ pgN s = 0 := ⟨by unfold pgV; rw [h]; rfl, by unfold pgN; rw [h]; rfl⟩
set_option maxHeartbeats 1000000 in
theorem implPacketGet_out (t : ByteArray) (a : Int) (w : World) (ht : t.size ≤ 1048576) (h : ¬ (0 ≤ a ∧ a ≤ t.size)) :
    Calls Tryd.prog 54 #[.string t, .int .i64 a] w fun e w' => e = .returned (.tuple #[pgV (pgAt t a), .int .i64 (pgN (pgAt t a))]) ∧ Below w.heap.size w w' := by
  have e0 : pgAt t a = ⟨#[]⟩ := by unfold pgAt; rw [if_neg h]
  obtain ⟨e1, e2⟩ := pgV_no pg_zero
  have hi : inB a 0 t.size = false := inB_no h
  have HG : Hid ((w.alloc (.cells #[.bool false, .int .i64 0, .int .i64 0, .string ⟨#[]⟩] 79)).heap[w.heap.size]? = some (.cells #[.bool false, .int .i64 0, .int .i64 0, .string ⟨#[]⟩] 79)) := get_new rfl
  have HB : Hid (Below w.heap.size w (w.alloc (.cells #[.bool false, .int .i64 0, .int .i64 0, .string ⟨#[]⟩] 79))) := (Below.refl _ _).alloc (Nat.le_refl _) _
  have HU : Hid (∀ W, Calls Tryd.prog 67 #[.int .i64 a, .int .i64 t.size] W fun e w' => e = .returned (.bool false) ∧ w' = W) := fun W => by
    have := upTo_any a t.size W
    rwa [hi] at this
  rw [e0, e1, e2]
  clear e0 e1 e2 hi h
  go_enter Tryd.func54, Tryd.ntmps54
  go_wp2_with fail
  refine Calls.mono (HU.out _) ?_
  rintro e w1 ⟨rfl, rfl⟩
  go_wp2_with fail
  refine bodyPost_ret (v := .tuple #[.agg #[.bool false, .int .i64 0, .int .i64 0, .string ⟨#[]⟩], .int .i64 0]) (results_row_tmp Tryd.results54 _ _ (w.heap.size) 79 #[.bool false, .int .i64 0, .int .i64 0, .string ⟨#[]⟩] (0, 0) _ rfl ?_ Tryd.underlying79 rfl cellsPk _ rfl) rfl ⟨rfl, ?_⟩
  · exact HG.out
  · exact HB.out
set_option maxHeartbeats 4000000 in
theorem implPacketGet_in (t : ByteArray) (A : Nat) (w : World) (ht : t.size ≤ 1048576) (h : A ≤ t.size) (he : Eof w) (hw : 3 < w.heap.size) :
    Calls Tryd.prog 54 #[.string t, .int .i64 A] w fun e w' => e = .returned (.tuple #[pgV (t.extract A t.size), .int .i64 (pgN (t.extract A t.size))]) ∧ Below w.heap.size w w' := by
  have hi : inB A 0 t.size = true := inB_yes (by omega) (by omega)
  have hai : (A : Int) ≤ t.size := by omega
  have HG : Hid ((w.alloc (.cells #[.bool false, .int .i64 0, .int .i64 0, .string ⟨#[]⟩] 79)).heap[w.heap.size]? = some (.cells #[.bool false, .int .i64 0, .int .i64 0, .string ⟨#[]⟩] 79)) := get_new rfl
  have HB : Hid (Below w.heap.size w (w.alloc (.cells #[.bool false, .int .i64 0, .int .i64 0, .string ⟨#[]⟩] 79))) := (Below.refl _ _).alloc (Nat.le_refl _) _
  have HE : Hid (Eof (w.alloc (.cells #[.bool false, .int .i64 0, .int .i64 0, .string ⟨#[]⟩] 79))) := he.below ((Below.refl _ _).alloc (Nat.le_refl _) _)
  have HU : Hid (∀ W, Calls Tryd.prog 67 #[.int .i64 A, .int .i64 t.size] W fun e w' => e = .returned (.bool true) ∧ w' = W) := fun W => by
    have := upTo_any A t.size W
    rwa [hi] at this
  have hsz : (t.extract A t.size).size ≤ 1048576 := by rw [ByteArray.size_extract]; omega
  have HS : Hid ((t.extract A t.size).size ≤ 1048576) := hsz
  clear hi he hsz
  go_enter Tryd.func54, Tryd.ntmps54
  go_wp2_with fail
  refine Calls.mono (HU.out _) ?_
  rintro e w1 ⟨rfl, rfl⟩
  go_wp2_with fail
  generalize hs : t.extract A t.size = s at *
  refine (newReader_any s _).mono ?_
  rintro e w2 ⟨rfl, hp, hb⟩
  have hz : (w.alloc (.cells #[.bool false, .int .i64 0, .int .i64 0, .string ⟨#[]⟩] 79)).heap.size = w.heap.size + 1 := by simp
  rw [hz] at hp
  have HP2 : Hid (Prd w2 (w.heap.size + 1) s 0) := hp
  have HG2 : Hid (w2.heap[w.heap.size]? = some (.cells #[.bool false, .int .i64 0, .int .i64 0, .string ⟨#[]⟩] 79)) := get_below hb HG.out (by simp)
  have HE2 : Hid (Eof w2) := HE.out.below hb
  have HB2 : Hid (Below w.heap.size w w2) := HB.out.trans (hb.mono HB.out.size)
  clear hp hb HG HE HB
  simp only [hz]
  clear hz
  go_wp2_with fail
  refine (packet_any (w.heap.size + 1) s w2 HS.out HP2.out HE2.out (by omega)).mono ?_
  rintro e w3 ⟨v0, v1, d, rfl, ho, hr⟩
  have hl2 := HP2.out.lt
  have HR : Hid (pgR s v0 v1 d) := hr
  have hdm : d.size ≤ maxLen := Nat.le_trans hr.2 (Nat.le_trans HS.out (by unfold maxLen; omega))
  have hds : d.size ≤ 1048576 := Nat.le_trans hr.2 HS.out
  have HG3 : Hid (w3.heap[w.heap.size]? = some (.cells #[.bool false, .int .i64 0, .int .i64 0, .string ⟨#[]⟩] 79)) := getOP ho HG2.out (by omega)
  have HB3 : Hid (Below w.heap.size w w3) := HB2.out.trans (ho.below (by omega) HB2.out.size)
  have hl3 := size_of_get HG3.out
  have HG4 : Hid ((w3.alloc (.cells #[.bool (decide (v0 / 4096 % 2 = 1)), .int .i64 ((v0 : Int) % 2048), .int .i64 ((v1 : Int) % 16384), .string d] 79)).heap[w.heap.size]? = some (.cells #[.bool false, .int .i64 0, .int .i64 0, .string ⟨#[]⟩] 79)) := get_alloc HG3.out hl3
  have HX4 : Hid ((w3.alloc (.cells #[.bool (decide (v0 / 4096 % 2 = 1)), .int .i64 ((v0 : Int) % 2048), .int .i64 ((v1 : Int) % 16384), .string d] 79)).heap[w3.heap.size]? = some (.cells #[.bool (decide (v0 / 4096 % 2 = 1)), .int .i64 ((v0 : Int) % 2048), .int .i64 ((v1 : Int) % 16384), .string d] 79)) := get_new rfl
  have HB4 : Hid (Below w.heap.size w (w3.alloc (.cells #[.bool (decide (v0 / 4096 % 2 = 1)), .int .i64 ((v0 : Int) % 2048), .int .i64 ((v1 : Int) % 16384), .string d] 79))) := HB3.out.alloc HB3.out.size _
  clear ho hr HP2 HG2 HE2 HB2 HG3 HB3
  obtain ⟨k0, k1, k2, k3⟩ := cells4_of HX4.out
  go_wp2_with fail
  refine (implPacketPut_any _ _ _ d _ hdm).mono ?_
  rintro e w5 ⟨rfl, hb⟩
  have HG9 : Hid (w5.heap[w.heap.size]? = some (.cells #[.bool false, .int .i64 0, .int .i64 0, .string ⟨#[]⟩] 79)) := get_below hb HG4.out (size_of_get HG4.out)
  have HX9 : Hid (w5.heap[w3.heap.size]? = some (.cells #[.bool (decide (v0 / 4096 % 2 = 1)), .int .i64 ((v0 : Int) % 2048), .int .i64 ((v1 : Int) % 16384), .string d] 79)) := get_below hb HX4.out (size_of_get HX4.out)
  have HB9 : Hid (Below w.heap.size w w5) := HB4.out.trans (hb.mono HB4.out.size)
  clear hb HG4 HX4 HB4 k0 k1 k2 k3
  obtain ⟨q, hq⟩ : ∃ q, q = (decide (pkPut (decide (v0 / 4096 % 2 = 1)) (v0 % 2048 : Nat) (v1 % 16384 : Nat) d ≠ ⟨#[]⟩) && decide ((pkPut (decide (v0 / 4096 % 2 = 1)) (v0 % 2048 : Nat) (v1 % 16384 : Nat) d).size ≤ s.size) && decide (s.extract 0 (pkPut (decide (v0 / 4096 % 2 = 1)) (v0 % 2048 : Nat) (v1 % 16384 : Nat) d).size = pkPut (decide (v0 / 4096 % 2 = 1)) (v0 % 2048 : Nat) (v1 % 16384 : Nat) d)) := ⟨_, rfl⟩
  obtain ⟨e1, e2, e3⟩ := pg_end HR.out.1 hq
  have hpz : (pkPut (decide (v0 / 4096 % 2 = 1)) (v0 % 2048 : Nat) (v1 % 16384 : Nat) d).size ≤ 1048576 := by
    cases ho : pkOk (v0 % 2048 : Nat) (v1 % 16384 : Nat) d with
    | false => unfold pkPut; rw [ho]; exact Nat.zero_le _
    | true => have := pkPut_size (u := decide (v0 / 4096 % 2 = 1)) ho; obtain ⟨_, _, _, _, _, h5⟩ := pkOk_all ho; omega
  have ec1 : ((v0 % 2048 : Nat) : Int) = (v0 : Int) % 2048 := by simp
  have ec2 : ((v1 % 16384 : Nat) : Int) = (v1 : Int) % 16384 := by simp
  rw [ec1, ec2] at hq e2 hpz
  have hput : True := trivial
  generalize pkPut (decide (v0 / 4096 % 2 = 1)) ((v0 : Int) % 2048) ((v1 : Int) % 16384) d = put at *
  have E2 : Hid _ := e2
  have E3 : Hid _ := e3
  clear e1 e2 e3 ec1 ec2 hput HR
  obtain ⟨r0, r1, r2, r3⟩ := cells4_of HG9.out
  obtain ⟨k0, k1, k2, k3⟩ := cells4_of HX9.out
  have fz : ∀ j, w5.frozen? ⟨w.heap.size, j, none⟩ = false := fun j => frozen_get HG9.out
  have hl9 := size_of_get HX9.out
  cases hem : put.toList.isEmpty with
  | true =>
    have hp0 : put = ⟨#[]⟩ := by
      rw [ByteArray.toList_eq, List.isEmpty_iff] at hem
      exact bytes_inj hem
    have hq0 : q = false := by rw [hq, hp0]; rfl
    subst hq0
    obtain ⟨f1, f2⟩ := E3.out rfl
    have F1 : Hid _ := f1
    have F2 : Hid _ := f2
    clear f1 f2 hq E2 E3 hp0
    go_wp2_with fail
    refine bodyPost_ret (v := .tuple #[.agg #[.bool false, .int .i64 0, .int .i64 0, .string ⟨#[]⟩], .int .i64 0]) (results_row_tmp Tryd.results54 _ _ (w.heap.size) 79 #[.bool false, .int .i64 0, .int .i64 0, .string ⟨#[]⟩] (0, 0) _ rfl ?_ Tryd.underlying79 rfl cellsPk _ rfl) rfl ⟨by rw [hs, F1.out, F2.out], ?_⟩
    · exact get_set (get_set (get_set (get_set (HG9.out) rfl) rfl) rfl) rfl
    · exact belowS (belowS (belowS (belowS (HB9.out) (by omega)) (by omega)) (by omega)) (by omega)
  | false =>
    have hne : put ≠ ⟨#[]⟩ := fun e => by rw [e, ByteArray.toList_eq] at hem; exact absurd hem (by decide)
    have hq1 : q = preP s put := by rw [hq]; unfold preP; rw [decide_eq_true hne, Bool.true_and]
    have HPR : Hid (∀ W, Calls Tryd.prog 108 #[.string s, .string put] W fun e w' => e = .returned (.bool q) ∧ w' = W) := fun W => by rw [hq1]; exact hasPrefixP s put W HS.out hpz
    clear hq hq1 hne
    go_wp2_with fail
    refine Calls.mono (HPR.out _) ?_
    rintro e w6 ⟨rfl, rfl⟩
    cases q with
    | false =>
      obtain ⟨f1, f2⟩ := E3.out rfl
      have F1 : Hid _ := f1
      have F2 : Hid _ := f2
      clear f1 f2 E2 E3 HPR
      go_wp2_with fail
      refine bodyPost_ret (v := .tuple #[.agg #[.bool false, .int .i64 0, .int .i64 0, .string ⟨#[]⟩], .int .i64 0]) (results_row_tmp Tryd.results54 _ _ (w.heap.size) 79 #[.bool false, .int .i64 0, .int .i64 0, .string ⟨#[]⟩] (0, 0) _ rfl ?_ Tryd.underlying79 rfl cellsPk _ rfl) rfl ⟨by rw [hs, F1.out, F2.out], ?_⟩
      · exact get_set (get_set (get_set (get_set (HG9.out) rfl) rfl) rfl) rfl
      · exact belowS (belowS (belowS (belowS (HB9.out) (by omega)) (by omega)) (by omega)) (by omega)
    | true =>
      obtain ⟨f1, f2⟩ := E2.out rfl
      have F1 : Hid _ := f1
      have F2 : Hid _ := f2
      clear f1 f2 E2 E3 HPR
      go_wp2_with fail
      refine bodyPost_ret (v := .tuple #[.agg #[.bool (decide (v0 / 4096 % 2 = 1)), .int .i64 ((v0 : Int) % 2048), .int .i64 ((v1 : Int) % 16384), .string d], .int .i64 (put.size : Nat)]) (results_row_tmp Tryd.results54 _ _ (w.heap.size) 79 #[.bool (decide (v0 / 4096 % 2 = 1)), .int .i64 ((v0 : Int) % 2048), .int .i64 ((v1 : Int) % 16384), .string d] (0, 0) _ rfl ?_ Tryd.underlying79 rfl cellsPk _ rfl) rfl ⟨by rw [hs, F1.out, F2.out], ?_⟩
      · exact get_set (get_set (get_set (get_set (HG9.out) rfl) rfl) rfl) rfl
      · exact belowS (belowS (belowS (belowS (HB9.out) (by omega)) (by omega)) (by omega)) (by omega)
end Go.Proofs.YtgejiiaocgacmaaDoor
