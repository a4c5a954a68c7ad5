/- The contracts of FrameOk, both sides, and of laws.eqFrame at two frames that are one. -/
import Derived.Test.YtlifigpkjbnkhaaDoorNum
namespace Go.Proofs.YtlifigpkjbnkhaaDoor
open Go.ChangeShapes Go.WideShapes Go.ChangeAt Go.RowKit
set_option linter.unusedVariables false

theorem bcell' {W w1 : World} (hb : Below W.heap.size W w1) : (∀ b o, b < W.heap.size → w1.cell? ⟨b, o, none⟩ = W.cell? ⟨b, o, none⟩) ∧ (∀ b o, b < W.heap.size → w1.frozen? ⟨b, o, none⟩ = W.frozen? ⟨b, o, none⟩) :=
  ⟨fun b o h => hb.cell (p := ⟨b, o, none⟩) h, fun b o h => hb.frozen (p := ⟨b, o, none⟩) h⟩
set_option maxHeartbeats 400000 in
theorem upTo_any (n m : Int) (w : World) :
    Calls Tryd.prog 46 #[.int .i64 n, .int .i64 m] w fun e w' => e = .returned (.bool (inB n 0 m)) ∧ w' = w := by
  by_cases h : 0 ≤ n
  · go_enter Tryd.func46, Tryd.ntmps46
    go_wp2
    go_ret
    exact ⟨by simp [inB, h], rfl⟩
  · have hb : inB n 0 m = false := by simp [inB, h]
    go_enter Tryd.func46, Tryd.ntmps46
    go_wp2
    go_ret
    exact ⟨by simp, rfl⟩
set_option maxHeartbeats 400000 in
theorem frameDataOk_any (d : ByteArray) (w : World) (hd : d.size ≤ maxLen) :
    Calls Tryd.prog 47 #[.string d] w fun e w' => e = .returned (.bool (inB d.size 1 53)) ∧ w' = w := by
  unfold maxLen at hd
  by_cases h : 1 ≤ (d.size : Int)
  · go_enter Tryd.func47, Tryd.ntmps47
    go_wp2
    go_ret
    exact ⟨by simp [inB, h], rfl⟩
  · have hb : inB d.size 1 53 = false := inB_no (by omega)
    go_enter Tryd.func47, Tryd.ntmps47
    go_wp2
    go_ret
    exact ⟨by simp, rfl⟩
def frOk (p g : Bool) (c v q : Int) (d : ByteArray) : Bool := inB c 0 1023 && inB v 0 63 && inB q 0 255 && inB d.size 1 53 && (p || !g)

set_option maxHeartbeats 1000000 in
theorem implFrameOk_any (p g : Bool) (c v q : Int) (d : ByteArray) (w : World) (hd : d.size ≤ maxLen) :
    Calls Tryd.prog 22 #[.agg #[.bool p, .bool g, .int .i64 c, .int .i64 v, .int .i64 q, .string d]] w fun e w' => e = .returned (.bool (frOk p g c v q d)) ∧ Below w.heap.size w w' := by
  have HB : ∀ o, Below w.heap.size w (w.alloc o) := fun o => (Below.refl _ _).alloc (Nat.le_refl _) o
  have HBH : Hid _ := HB
  clear HB
  cases h1 : inB c 0 1023
  · go_enter Tryd.func22, Tryd.ntmps22
    go_wp2_with (first | (go_at_call 46; refine (upTo_any _ _ _).mono ?_; rintro e w' ⟨rfl, rfl⟩) | (go_at_call 47; refine (frameDataOk_any _ _ hd).mono ?_; rintro e w' ⟨rfl, rfl⟩))
    go_ret
    exact ⟨by simp [frOk, h1], HBH.out _⟩
  cases h2 : inB v 0 63
  · go_enter Tryd.func22, Tryd.ntmps22
    go_wp2_with (first | (go_at_call 46; refine (upTo_any _ _ _).mono ?_; rintro e w' ⟨rfl, rfl⟩) | (go_at_call 47; refine (frameDataOk_any _ _ hd).mono ?_; rintro e w' ⟨rfl, rfl⟩))
    go_ret
    exact ⟨by simp [frOk, h2], HBH.out _⟩
  cases h3 : inB q 0 255
  · go_enter Tryd.func22, Tryd.ntmps22
    go_wp2_with (first | (go_at_call 46; refine (upTo_any _ _ _).mono ?_; rintro e w' ⟨rfl, rfl⟩) | (go_at_call 47; refine (frameDataOk_any _ _ hd).mono ?_; rintro e w' ⟨rfl, rfl⟩))
    go_ret
    exact ⟨by simp [frOk, h3], HBH.out _⟩
  cases h4 : inB d.size 1 53
  · go_enter Tryd.func22, Tryd.ntmps22
    go_wp2_with (first | (go_at_call 46; refine (upTo_any _ _ _).mono ?_; rintro e w' ⟨rfl, rfl⟩) | (go_at_call 47; refine (frameDataOk_any _ _ hd).mono ?_; rintro e w' ⟨rfl, rfl⟩))
    go_ret
    exact ⟨by simp [frOk, h4], HBH.out _⟩
  cases p
  all_goals
    go_enter Tryd.func22, Tryd.ntmps22
    go_wp2_with (first | (go_at_call 46; refine (upTo_any _ _ _).mono ?_; rintro e w' ⟨rfl, rfl⟩) | (go_at_call 47; refine (frameDataOk_any _ _ hd).mono ?_; rintro e w' ⟨rfl, rfl⟩))
    go_ret
    exact ⟨by simp [frOk, h1, h2, h3, h4], HBH.out _⟩

set_option maxHeartbeats 1000000 in
theorem specFrameOk_any (p g : Bool) (c v q : Int) (d : ByteArray) (w : World) (hd : d.size ≤ maxLen) :
    Calls Tryd.prog 23 #[.agg #[.bool p, .bool g, .int .i64 c, .int .i64 v, .int .i64 q, .string d]] w fun e w' => e = .returned (.bool (frOk p g c v q d)) ∧ Below w.heap.size w w' := by
  unfold maxLen at hd
  have HB : ∀ o, Below w.heap.size w (w.alloc o) := fun o => (Below.refl _ _).alloc (Nat.le_refl _) o
  have HBH : Hid _ := HB
  clear HB
  cases h1 : inB c 0 1023
  · go_enter Tryd.func23, Tryd.ntmps23
    go_wp2_with (go_at_call 26; refine (l1In_any _ _ _ _).mono ?_; rintro e w' ⟨rfl, rfl⟩)
    go_ret
    exact ⟨by simp [frOk, h1], HBH.out _⟩
  cases h2 : inB v 0 63
  · go_enter Tryd.func23, Tryd.ntmps23
    go_wp2_with (go_at_call 26; refine (l1In_any _ _ _ _).mono ?_; rintro e w' ⟨rfl, rfl⟩)
    go_ret
    exact ⟨by simp [frOk, h2], HBH.out _⟩
  cases h3 : inB q 0 255
  · go_enter Tryd.func23, Tryd.ntmps23
    go_wp2_with (go_at_call 26; refine (l1In_any _ _ _ _).mono ?_; rintro e w' ⟨rfl, rfl⟩)
    go_ret
    exact ⟨by simp [frOk, h3], HBH.out _⟩
  cases h4 : inB d.size 1 53
  · go_enter Tryd.func23, Tryd.ntmps23
    go_wp2_with (go_at_call 26; refine (l1In_any _ _ _ _).mono ?_; rintro e w' ⟨rfl, rfl⟩)
    go_ret
    exact ⟨by simp [frOk, h4], HBH.out _⟩
  cases p
  all_goals
    go_enter Tryd.func23, Tryd.ntmps23
    go_wp2_with (go_at_call 26; refine (l1In_any _ _ _ _).mono ?_; rintro e w' ⟨rfl, rfl⟩)
    go_ret
    exact ⟨by simp [frOk, h1, h2, h3, h4], HBH.out _⟩

set_option maxHeartbeats 1000000 in
theorem eqFrame_same (p g : Bool) (c v q : Int) (d : ByteArray) (w : World) :
    Calls Tryd.prog 10 #[.agg #[.bool p, .bool g, .int .i64 c, .int .i64 v, .int .i64 q, .string d], .agg #[.bool p, .bool g, .int .i64 c, .int .i64 v, .int .i64 q, .string d]] w fun e w' => e = .returned (.bool true) ∧ Below w.heap.size w w' := by
  go_enter Tryd.func10, Tryd.ntmps10
  go_wp2
  go_ret
  exact ⟨rfl, ((Below.refl _ _).alloc (Nat.le_refl _) _).alloc (by simp) _⟩
end Go.Proofs.YtlifigpkjbnkhaaDoor
