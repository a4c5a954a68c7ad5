/- The contracts of PacketPut, both sides. -/
import Derived.Test.YtgejiiaocgacmaaDoorPkN
import Derived.Deep.RegionHeld2
import Derived.Test.YtgejiiaocgacmaaDoorFrP
namespace Go.Proofs.YtgejiiaocgacmaaDoor
open Go.ChangeShapes Go.WideShapes Go.ChangeAt Go.RowKit
set_option linter.unusedVariables false

theorem get_allocH {w : World} {g : Nat} {x o : Obj} (h : w.heap[g]? = some o) : (w.alloc x).heap[g]? = some o := get_alloc h (size_of_get h)
def pkOk (a c : Int) (d : ByteArray) : Bool := inB a 0 2047 && inB c 0 16383 && inB d.size 1 100
theorem inB_eq (n lo hi : Int) : inB n lo hi = (decide (lo ≤ n) && decide (n ≤ hi)) := rfl
set_option maxHeartbeats 1000000 in
theorem implPackOk_any (u : Bool) (a c : Int) (d : ByteArray) (w : World) (hd : d.size ≤ maxLen) :
    Calls Tryd.prog 136 #[.agg #[.bool u, .int .i64 a, .int .i64 c, .string d]] w fun e w' => e = .returned (.bool (pkOk a c d)) ∧ Below w.heap.size w w' := by
  have hm := hd
  unfold maxLen at hm
  have HBH : Hid (∀ o, Below w.heap.size w (w.alloc o)) := fun o => (Below.refl _ _).alloc (Nat.le_refl _) o
  cases h1 : inB a 0 2047
  · go_enter Tryd.func136, Tryd.ntmps136
    go_wp2_with (go_at_call 67; refine (upTo_any _ _ _).mono ?_; rintro e w' ⟨rfl, rfl⟩)
    go_ret
    exact ⟨by simp [pkOk, h1], HBH.out _⟩
  cases h2 : inB c 0 16383
  · go_enter Tryd.func136, Tryd.ntmps136
    go_wp2_with (go_at_call 67; refine (upTo_any _ _ _).mono ?_; rintro e w' ⟨rfl, rfl⟩)
    go_ret
    exact ⟨by simp [pkOk, h2], HBH.out _⟩
  by_cases h3 : 1 ≤ (d.size : Int)
  · have HX : Hid (pkOk a c d = decide ((d.size : Int) ≤ 100)) := by show pkOk a c d = _; rw [pkOk, h1, h2]; simp [inB, h3]
    go_enter Tryd.func136, Tryd.ntmps136
    go_wp2_with (go_at_call 67; refine (upTo_any _ _ _).mono ?_; rintro e w' ⟨rfl, rfl⟩)
    go_ret
    exact ⟨by rw [HX.out]; rfl, HBH.out _⟩
  · have HX : Hid (pkOk a c d = false) := by show pkOk a c d = _; rw [pkOk, h1, h2, inB_no (by omega)]; rfl
    go_enter Tryd.func136, Tryd.ntmps136
    go_wp2_with (go_at_call 67; refine (upTo_any _ _ _).mono ?_; rintro e w' ⟨rfl, rfl⟩)
    go_ret
    exact ⟨by rw [HX.out]; rfl, HBH.out _⟩
set_option maxHeartbeats 1000000 in
theorem specPackOk_any (u : Bool) (a c : Int) (d : ByteArray) (w : World) (hd : d.size ≤ maxLen) :
    Calls Tryd.prog 156 #[.agg #[.bool u, .int .i64 a, .int .i64 c, .string d]] w fun e w' => e = .returned (.bool (pkOk a c d)) ∧ Below w.heap.size w w' := by
  have hm := hd
  unfold maxLen at hm
  have HBH : Hid (∀ o, Below w.heap.size w (w.alloc o)) := fun o => (Below.refl _ _).alloc (Nat.le_refl _) o
  cases h1 : inB a 0 2047
  · go_enter Tryd.func156, Tryd.ntmps156
    go_wp2_with (go_at_call 55; refine (l1In_any _ _ _ _).mono ?_; rintro e w' ⟨rfl, rfl⟩)
    go_ret
    exact ⟨by simp [pkOk, h1], HBH.out _⟩
  cases h2 : inB c 0 16383
  · go_enter Tryd.func156, Tryd.ntmps156
    go_wp2_with (go_at_call 55; refine (l1In_any _ _ _ _).mono ?_; rintro e w' ⟨rfl, rfl⟩)
    go_ret
    exact ⟨by simp [pkOk, h2], HBH.out _⟩
  go_enter Tryd.func156, Tryd.ntmps156
  go_wp2_with (go_at_call 55; refine (l1In_any _ _ _ _).mono ?_; rintro e w' ⟨rfl, rfl⟩)
  go_ret
  exact ⟨by simp [pkOk, h1, h2], HBH.out _⟩
theorem wrt_new (w : World) : Wrt (w.alloc (.cells #[.slice none 0 0] 177)) w.heap.size [] := ⟨_, get_new rfl, rfl, .inl ⟨rfl, rfl⟩⟩
theorem nums_of (l : List UInt8) : strOfNums ((l.map fun x => Value.int .u8 (x.toNat : Int)).map intOf) = ⟨l.toArray⟩ := by
  unfold strOfNums
  apply ByteArray.ext
  simp [intOf, Function.comp_def]
theorem wrt_text {w : World} {b : Nat} {l : List UInt8} (h : Wrt w b l) : ∃ v, w.cell? ⟨b, 0, none⟩ = some v ∧ (convert 177 9 v).run Tryd.prog w = .ok (.string ⟨l.toArray⟩) w := by
  obtain ⟨v, hG, h1, h2⟩ := h
  refine ⟨v, cell_get hG rfl, ?_⟩
  rcases h2 with ⟨rfl, hn⟩ | ⟨g, cap, cur, rfl, hb, hh, hnc, hcm, hcs, htk⟩
  · have hl : l = [] := List.eq_nil_of_length_eq_zero hn
    subst hl
    exact run_convert_bytes_nil w 177 5 Tryd.underlying177 Tryd.underlying5 0 0 9 Tryd.underlying9
  · rw [← nums_of l]
    refine run_convert_bytes_arg w 177 5 Tryd.underlying177 Tryd.underlying5 g 0 l.length cap _ (by simp) (fun i hi => ?_) 9 Tryd.underlying9
    have hc : w.cell? ⟨g, 0 + i, none⟩ = cur[i]? := by simp [World.cell?, hh]
    have hx : cur[i]? = some (Value.int .u8 (l[i].toNat : Int)) := by
      have e : cur.toList[i]? = (l.map fun x => Value.int .u8 (x.toNat : Int))[i]? := by rw [← htk, List.getElem?_take_of_lt (by omega)]
      rw [List.getElem?_map, List.getElem?_eq_getElem hi] at e
      simpa using e
    rw [hc, hx]
    simp [List.getD, hi, intOf]
set_option maxHeartbeats 1000000 in
theorem implPacketPut_no (u : Bool) (a c : Int) (d : ByteArray) (w : World) (hd : d.size ≤ maxLen) (h : pkOk a c d = false) :
    Calls Tryd.prog 107 #[.agg #[.bool u, .int .i64 a, .int .i64 c, .string d]] w fun e w' => e = .returned (.string ⟨#[]⟩) ∧ Below w.heap.size w w' := by
  have HS : Hid (Below (w.heap.size + 1) (w.alloc (.cells #[.bool u, .int .i64 a, .int .i64 c, .string d] 79)) (w.alloc (.cells #[.bool u, .int .i64 a, .int .i64 c, .string d] 79))) := Below.refl _ _
  go_enter Tryd.func107, Tryd.ntmps107
  go_wp2_with fail
  refine (implPackOk_any _ _ _ _ _ hd).mono ?_
  rintro e w1 ⟨rfl, hb1⟩
  have HS : Hid (Below (w.heap.size + 1) (w.alloc (.cells #[.bool u, .int .i64 a, .int .i64 c, .string d] 79)) w1) := (by first | exact hidA HS hb1 | exact hidB HS hb1)
  obtain ⟨hc1, hf1⟩ := bk HS.out
  clear hb1
  go_wp2_with fail
  go_ret
  exact ⟨rfl, ((Below.refl _ _).alloc (Nat.le_refl _) _).trans (HS.out.mono (by omega))⟩
def mkB (u : Bool) (a : Int) : Int := if u = true then 2048 + a + 4096 else 2048 + a
def pkW (u : Bool) (a c : Int) (d : ByteArray) : ByteArray := ⟨(putL (mkB u a) 2 ++ putL (49152 + c) 2 ++ putL ((d.size : Int) - 1) 2 ++ d.data.toList).toArray⟩
theorem putL_two {n : Int} (h0 : 0 ≤ n) (h1 : n ≤ 65535) : putL n 2 = [hiB n, loB n] := by
  rw [putL_yes (by omega) (by omega) h0 (by show n < (65536 : Int); omega)]; simp [pt, hiB, loB]
theorem pk_eq {x1 y1 x2 y2 x3 y3 : UInt8} {n1 n2 n3 : Int} {u : Bool} {a c : Int} {d : ByteArray} (e1 : x1 = hiB n1 ∧ y1 = loB n1) (e2 : x2 = hiB n2 ∧ y2 = loB n2) (e3 : x3 = hiB n3 ∧ y3 = loB n3) (k1 : n1 = mkB u a) (k2 : n2 = 49152 + c) (k3 : n3 = (d.size : Int) - 1)
    (b1 : 0 ≤ n1 ∧ n1 ≤ 65535) (b2 : 0 ≤ n2 ∧ n2 ≤ 65535) (b3 : 0 ≤ n3 ∧ n3 ≤ 65535) : (⟨#[x1, y1]⟩ ++ ⟨#[x2, y2]⟩ ++ ⟨#[x3, y3]⟩ ++ d : ByteArray) = pkW u a c d := by
  obtain ⟨rfl, rfl⟩ := e1; obtain ⟨rfl, rfl⟩ := e2; obtain ⟨rfl, rfl⟩ := e3
  unfold pkW
  rw [← k1, ← k2, ← k3, putL_two b1.1 b1.2, putL_two b2.1 b2.2, putL_two b3.1 b3.2]
  apply ByteArray.ext
  simp
theorem pkOk_all {a c : Int} {d : ByteArray} (h : pkOk a c d = true) : 0 ≤ a ∧ a ≤ 2047 ∧ 0 ≤ c ∧ c ≤ 16383 ∧ 1 ≤ d.size ∧ d.size ≤ 100 := by
  simp only [pkOk, inB, Bool.and_eq_true, decide_eq_true_eq] at h
  omega
set_option maxRecDepth 100000 in
set_option maxHeartbeats 1000000 in
theorem implPacketPut_true (a c : Int) (d : ByteArray) (w : World) (hd : d.size ≤ maxLen) (h : pkOk a c d = true) (ha0 : 0 ≤ a) (ha1 : a ≤ 2047) (hca : 0 ≤ c) (hcc : c ≤ 16383) (hs0 : 1 ≤ d.size) (hs1 : d.size ≤ 100) :
    Calls Tryd.prog 107 #[.agg #[.bool true, .int .i64 a, .int .i64 c, .string d]] w fun e w' => e = .returned (.string (pkW true a c d)) ∧ Below w.heap.size w w' := by
  have HS : Hid (Below (w.heap.size + 1) (w.alloc (.cells #[.bool true, .int .i64 a, .int .i64 c, .string d] 79)) (w.alloc (.cells #[.bool true, .int .i64 a, .int .i64 c, .string d] 79))) := Below.refl _ _
  go_enter Tryd.func107, Tryd.ntmps107
  go_wp2_with fail
  refine (implPackOk_any _ _ _ _ _ hd).mono ?_
  rintro e w1 ⟨rfl, hb1⟩
  have HS : Hid (Below (w.heap.size + 1) (w.alloc (.cells #[.bool true, .int .i64 a, .int .i64 c, .string d] 79)) w1) := (by first | exact hidA HS hb1 | exact hidB HS hb1)
  obtain ⟨hc1, hf1⟩ := bk HS.out
  clear hb1
  have hz1 : w.heap.size < w1.heap.size := by have := HS.out.size; simp at this; omega
  go_wp2_with fail
  refine (head_true w1.heap.size [] a c _ d _ (wrt_new w1) (by simp) ha0 ha1 hca hcc (by omega) (by omega)).mono ?_
  rintro e w2 ⟨rfl, hw2, hk2⟩
  have hG2 : w2.heap[w.heap.size]? = some (.cells #[.bool true, .int .i64 a, .int .i64 c, .string d] 79) := get_below hk2.1 (get_allocH (get_below HS.out (get_new rfl) (by omega))) hz1
  have m3 : w2.cell? ⟨w.heap.size, 3, none⟩ = some (.string d) := cell_get hG2 rfl
  have HW : Hid (Wrt w2 w1.heap.size ([] ++ putL (2048 + a + 4096) 2 ++ putL (49152 + c) 2 ++ putL ((d.size : Int) - 1) 2)) := hw2
  have HB : Hid (Below w.heap.size w w2) := ((((Below.refl _ _).alloc (Nat.le_refl _) _).trans (HS.out.mono (by omega))).alloc (by omega) _).trans (hk2.1.mono (by omega))
  clear hw2 hk2 hG2
  go_wp2_with fail
  refine (text_any w1.heap.size _ d _ HW.out (by have := putL_le (2048 + a + 4096) 2; have := putL_le (49152 + c) 2; have := putL_le ((d.size : Int) - 1) 2; simp only [List.length_append, List.length_nil]; omega)).mono ?_
  rintro e w3 ⟨rfl, hw3, hk3⟩
  obtain ⟨v, hv, hcv⟩ := wrt_text hw3
  have HB3 : Hid (Below w.heap.size w w3) := HB.out.trans (hk3.1.mono (by omega))
  have HE : Hid ((⟨(([] ++ putL (2048 + a + 4096) 2 ++ putL (49152 + c) 2 ++ putL ((d.size : Int) - 1) 2) ++ d.data.toList).toArray⟩ : ByteArray) = pkW true a c d) := rfl
  clear hw3 hk3
  generalize (([] ++ putL (2048 + a + 4096) 2 ++ putL (49152 + c) 2 ++ putL ((d.size : Int) - 1) 2) ++ d.data.toList).toArray = T at *
  go_wp2_with fail
  go_ret
  exact ⟨ret_str HE.out, HB3.out⟩
set_option maxRecDepth 100000 in
set_option maxHeartbeats 1000000 in
theorem implPacketPut_false (a c : Int) (d : ByteArray) (w : World) (hd : d.size ≤ maxLen) (h : pkOk a c d = true) (ha0 : 0 ≤ a) (ha1 : a ≤ 2047) (hca : 0 ≤ c) (hcc : c ≤ 16383) (hs0 : 1 ≤ d.size) (hs1 : d.size ≤ 100) :
    Calls Tryd.prog 107 #[.agg #[.bool false, .int .i64 a, .int .i64 c, .string d]] w fun e w' => e = .returned (.string (pkW false a c d)) ∧ Below w.heap.size w w' := by
  have HS : Hid (Below (w.heap.size + 1) (w.alloc (.cells #[.bool false, .int .i64 a, .int .i64 c, .string d] 79)) (w.alloc (.cells #[.bool false, .int .i64 a, .int .i64 c, .string d] 79))) := Below.refl _ _
  go_enter Tryd.func107, Tryd.ntmps107
  go_wp2_with fail
  refine (implPackOk_any _ _ _ _ _ hd).mono ?_
  rintro e w1 ⟨rfl, hb1⟩
  have HS : Hid (Below (w.heap.size + 1) (w.alloc (.cells #[.bool false, .int .i64 a, .int .i64 c, .string d] 79)) w1) := (by first | exact hidA HS hb1 | exact hidB HS hb1)
  obtain ⟨hc1, hf1⟩ := bk HS.out
  clear hb1
  have hz1 : w.heap.size < w1.heap.size := by have := HS.out.size; simp at this; omega
  go_wp2_with fail
  refine (head_false w1.heap.size [] a c _ d _ (wrt_new w1) (by simp) ha0 ha1 hca hcc (by omega) (by omega)).mono ?_
  rintro e w2 ⟨rfl, hw2, hk2⟩
  have hG2 : w2.heap[w.heap.size]? = some (.cells #[.bool false, .int .i64 a, .int .i64 c, .string d] 79) := get_below hk2.1 (get_allocH (get_below HS.out (get_new rfl) (by omega))) hz1
  have m3 : w2.cell? ⟨w.heap.size, 3, none⟩ = some (.string d) := cell_get hG2 rfl
  have HW : Hid (Wrt w2 w1.heap.size ([] ++ putL (2048 + a) 2 ++ putL (49152 + c) 2 ++ putL ((d.size : Int) - 1) 2)) := hw2
  have HB : Hid (Below w.heap.size w w2) := ((((Below.refl _ _).alloc (Nat.le_refl _) _).trans (HS.out.mono (by omega))).alloc (by omega) _).trans (hk2.1.mono (by omega))
  clear hw2 hk2 hG2
  go_wp2_with fail
  refine (text_any w1.heap.size _ d _ HW.out (by have := putL_le (2048 + a) 2; have := putL_le (49152 + c) 2; have := putL_le ((d.size : Int) - 1) 2; simp only [List.length_append, List.length_nil]; omega)).mono ?_
  rintro e w3 ⟨rfl, hw3, hk3⟩
  obtain ⟨v, hv, hcv⟩ := wrt_text hw3
  have HB3 : Hid (Below w.heap.size w w3) := HB.out.trans (hk3.1.mono (by omega))
  have HE : Hid ((⟨(([] ++ putL (2048 + a) 2 ++ putL (49152 + c) 2 ++ putL ((d.size : Int) - 1) 2) ++ d.data.toList).toArray⟩ : ByteArray) = pkW false a c d) := rfl
  clear hw3 hk3
  generalize (([] ++ putL (2048 + a) 2 ++ putL (49152 + c) 2 ++ putL ((d.size : Int) - 1) 2) ++ d.data.toList).toArray = T at *
  go_wp2_with fail
  go_ret
  exact ⟨ret_str HE.out, HB3.out⟩
end Go.Proofs.YtgejiiaocgacmaaDoor
