import Derived.Test.YtgejiiaocgacmaaDoorNum
import Derived.LoopN
namespace Go.Proofs.YtgejiiaocgacmaaDoor
open Go.ChangeShapes Go.WideShapes Go.ChangeAt Go.RowKit

theorem ofNat_eq {x y : Nat} (h : x % 256 = y % 256) : UInt8.ofNat x = UInt8.ofNat y := UInt8.toNat_inj.1 (by simpa [UInt8.toNat_ofNat'] using h)
theorem div_div256 (n : Nat) (k : Nat) : n / 256 ^ k / 256 = n / 256 ^ (k + 1) := by rw [Nat.pow_succ, Nat.div_div_eq_div_mul]

theorem some_bytes (w : World) (xs : List Int) : (convert 31 9 (.slice (some ⟨w.heap.size, 0, none⟩) xs.length xs.length)).run Tryd.prog (w.alloc (.cells (xs.map (Value.int .u8)).toArray 5)) = .ok (.string (strOfNums xs)) (w.alloc (.cells (xs.map (Value.int .u8)).toArray 5)) :=
  run_convert_bytes_arg (P := Tryd.prog) (w.alloc (.cells (xs.map (Value.int .u8)).toArray 5)) 31 5 Tryd.underlying31 Tryd.underlying5 w.heap.size 0 xs.length xs.length xs rfl
    (fun i hi => by rw [World.cell?_alloc_mark]; simp [List.getD, hi]) 9 Tryd.underlying9

theorem mk1 (w : World) : (Instr.makeSlice 31 (.int .i64 1) (.int .i64 1)).run Tryd.prog w = .ok (.slice (some ⟨w.heap.size, 0, none⟩) 1 1) (w.alloc (.cells #[.int .u8 0] 5)) := by kernel_rfl
theorem str1 {a a' : UInt8} (ha : a = a') : (⟨#[a]⟩ : ByteArray) = ⟨[a'].toArray⟩ := by subst ha; rfl
theorem bytes1 (w : World) (a : Int) : (convert 31 9 (.slice (some ⟨w.heap.size, 0, none⟩) 1 1)).run Tryd.prog (w.alloc (.cells #[.int .u8 a] 5)) = .ok (.string ⟨#[UInt8.ofNat a.toNat]⟩) (w.alloc (.cells #[.int .u8 a] 5)) :=
  some_bytes w [a]

set_option maxHeartbeats 400000 in
theorem implNumPut_1 (n : Int) (w : World) (h0 : 0 ≤ n) (h1 : n < 256) :
    Calls Tryd.prog 98 #[.int .i64 n, .int .i64 1] w fun e w' => e = .returned (.string ⟨(pt n.toNat 1).toArray⟩) ∧ Below w.heap.size w w' := by
  have hmk := mk1
  have hby := bytes1
  have hz : (n / 256 != 0) = false := by rw [bne_eq_false_iff_eq]; omega
  have hng : decide (n < 0) = false := by simp; omega
  go_enter Tryd.func98, Tryd.ntmps98
  go_wp2
  refine wp_loop_rounds 2 ?_
  iterate 2 (rw [rounds_succ]; go_wp2)
  go_ret
  refine ⟨ret_str ?_, (Below.refl _ _).alloc (Nat.le_refl _) _⟩
  have hpt : pt n.toNat 1 = [UInt8.ofNat (n.toNat / 1)] := rfl
  rw [hpt]
  exact str1 (ofNat_eq (by omega))

theorem mk2 (w : World) : (Instr.makeSlice 31 (.int .i64 2) (.int .i64 2)).run Tryd.prog w = .ok (.slice (some ⟨w.heap.size, 0, none⟩) 2 2) (w.alloc (.cells #[.int .u8 0, .int .u8 0] 5)) := by kernel_rfl
theorem str2 {a b a' b' : UInt8} (ha : a = a') (hb : b = b') : (⟨#[a, b]⟩ : ByteArray) = ⟨[a', b'].toArray⟩ := by subst ha hb; rfl
theorem bytes2 (w : World) (a b : Int) : (convert 31 9 (.slice (some ⟨w.heap.size, 0, none⟩) 2 2)).run Tryd.prog (w.alloc (.cells #[.int .u8 a, .int .u8 b] 5)) = .ok (.string ⟨#[UInt8.ofNat a.toNat, UInt8.ofNat b.toNat]⟩) (w.alloc (.cells #[.int .u8 a, .int .u8 b] 5)) :=
  some_bytes w [a, b]

set_option maxHeartbeats 400000 in
theorem implNumPut_2 (n : Int) (w : World) (h0 : 0 ≤ n) (h1 : n < 65536) :
    Calls Tryd.prog 98 #[.int .i64 n, .int .i64 2] w fun e w' => e = .returned (.string ⟨(pt n.toNat 2).toArray⟩) ∧ Below w.heap.size w w' := by
  have hmk := mk2
  have hby := bytes2
  have hz : (n / 65536 != 0) = false := by rw [bne_eq_false_iff_eq]; omega
  have hng : decide (n < 0) = false := by simp; omega
  go_enter Tryd.func98, Tryd.ntmps98
  go_wp2
  refine wp_loop_rounds 3 ?_
  iterate 3 (rw [rounds_succ]; go_wp2)
  go_ret
  refine ⟨ret_str ?_, (Below.refl _ _).alloc (Nat.le_refl _) _⟩
  have hpt : pt n.toNat 2 = [UInt8.ofNat (n.toNat / 256), UInt8.ofNat (n.toNat / 1)] := rfl
  rw [hpt]
  exact str2 (ofNat_eq (by omega)) (ofNat_eq (by omega))

theorem mk3 (w : World) : (Instr.makeSlice 31 (.int .i64 3) (.int .i64 3)).run Tryd.prog w = .ok (.slice (some ⟨w.heap.size, 0, none⟩) 3 3) (w.alloc (.cells #[.int .u8 0, .int .u8 0, .int .u8 0] 5)) := by kernel_rfl
theorem str3 {a b c a' b' c' : UInt8} (ha : a = a') (hb : b = b') (hc : c = c') : (⟨#[a, b, c]⟩ : ByteArray) = ⟨[a', b', c'].toArray⟩ := by subst ha hb hc; rfl
theorem bytes3 (w : World) (a b c : Int) : (convert 31 9 (.slice (some ⟨w.heap.size, 0, none⟩) 3 3)).run Tryd.prog (w.alloc (.cells #[.int .u8 a, .int .u8 b, .int .u8 c] 5)) = .ok (.string ⟨#[UInt8.ofNat a.toNat, UInt8.ofNat b.toNat, UInt8.ofNat c.toNat]⟩) (w.alloc (.cells #[.int .u8 a, .int .u8 b, .int .u8 c] 5)) :=
  some_bytes w [a, b, c]

set_option maxHeartbeats 400000 in
theorem implNumPut_3 (n : Int) (w : World) (h0 : 0 ≤ n) (h1 : n < 16777216) :
    Calls Tryd.prog 98 #[.int .i64 n, .int .i64 3] w fun e w' => e = .returned (.string ⟨(pt n.toNat 3).toArray⟩) ∧ Below w.heap.size w w' := by
  have hmk := mk3
  have hby := bytes3
  have hz : (n / 16777216 != 0) = false := by rw [bne_eq_false_iff_eq]; omega
  have hng : decide (n < 0) = false := by simp; omega
  go_enter Tryd.func98, Tryd.ntmps98
  go_wp2
  refine wp_loop_rounds 4 ?_
  iterate 4 (rw [rounds_succ]; go_wp2)
  go_ret
  refine ⟨ret_str ?_, (Below.refl _ _).alloc (Nat.le_refl _) _⟩
  have hpt : pt n.toNat 3 = [UInt8.ofNat (n.toNat / 65536), UInt8.ofNat (n.toNat / 256), UInt8.ofNat (n.toNat / 1)] := rfl
  rw [hpt]
  exact str3 (ofNat_eq (by omega)) (ofNat_eq (by omega)) (ofNat_eq (by omega))

theorem mk4 (w : World) : (Instr.makeSlice 31 (.int .i64 4) (.int .i64 4)).run Tryd.prog w = .ok (.slice (some ⟨w.heap.size, 0, none⟩) 4 4) (w.alloc (.cells #[.int .u8 0, .int .u8 0, .int .u8 0, .int .u8 0] 5)) := by kernel_rfl
theorem str4 {a b c d a' b' c' d' : UInt8} (ha : a = a') (hb : b = b') (hc : c = c') (hd : d = d') : (⟨#[a, b, c, d]⟩ : ByteArray) = ⟨[a', b', c', d'].toArray⟩ := by subst ha hb hc hd; rfl
theorem bytes4 (w : World) (a b c d : Int) : (convert 31 9 (.slice (some ⟨w.heap.size, 0, none⟩) 4 4)).run Tryd.prog (w.alloc (.cells #[.int .u8 a, .int .u8 b, .int .u8 c, .int .u8 d] 5)) = .ok (.string ⟨#[UInt8.ofNat a.toNat, UInt8.ofNat b.toNat, UInt8.ofNat c.toNat, UInt8.ofNat d.toNat]⟩) (w.alloc (.cells #[.int .u8 a, .int .u8 b, .int .u8 c, .int .u8 d] 5)) :=
  some_bytes w [a, b, c, d]

set_option maxHeartbeats 400000 in
theorem implNumPut_4 (n : Int) (w : World) (h0 : 0 ≤ n) (h1 : n < 4294967296) :
    Calls Tryd.prog 98 #[.int .i64 n, .int .i64 4] w fun e w' => e = .returned (.string ⟨(pt n.toNat 4).toArray⟩) ∧ Below w.heap.size w w' := by
  have hmk := mk4
  have hby := bytes4
  have hz : (n / 4294967296 != 0) = false := by rw [bne_eq_false_iff_eq]; omega
  have hng : decide (n < 0) = false := by simp; omega
  go_enter Tryd.func98, Tryd.ntmps98
  go_wp2
  refine wp_loop_rounds 5 ?_
  iterate 5 (rw [rounds_succ]; go_wp2)
  go_ret
  refine ⟨ret_str ?_, (Below.refl _ _).alloc (Nat.le_refl _) _⟩
  have hpt : pt n.toNat 4 = [UInt8.ofNat (n.toNat / 16777216), UInt8.ofNat (n.toNat / 65536), UInt8.ofNat (n.toNat / 256), UInt8.ofNat (n.toNat / 1)] := rfl
  rw [hpt]
  exact str4 (ofNat_eq (by omega)) (ofNat_eq (by omega)) (ofNat_eq (by omega)) (ofNat_eq (by omega))

end Go.Proofs.YtgejiiaocgacmaaDoor
