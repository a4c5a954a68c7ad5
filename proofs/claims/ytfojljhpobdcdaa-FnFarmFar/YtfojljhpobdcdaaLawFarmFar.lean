/- Proved: laws.FnFarmFar returns true at every slice of bytes (a frame too far ahead shuts, and only who opens again lets the next one in), and leaves it as it was. No condition. -/
import Derived.Test.YtfojljhpobdcdaaDrawJ
import Derived.Test.YtfojljhpobdcdaaFaN
import Derived.Test.YtfojljhpobdcdaaKeepN
import Derived.Test.YtfojljhpobdcdaaFarmO
import Derived.Deep.RegionHeld2
import Derived.Deep.RegionWith
namespace Go.Proofs.Ytfojljhpobdcdaa
open Go.ChangeShapes Go.WideShapes Go.ChangeAt Go.RowKit
set_option linter.unusedVariables false

open Go.ChangeMaps (open_string shut_string)
theorem specFrameOk_is (p g : Bool) (c v q : Int) (d : ByteArray) (w : World) (hd : d.size ≤ maxLen) (b : Bool) (h : frOk p g c v q d = b) :
    Calls Try.prog 12 #[.agg #[.bool p, .bool g, .int .i64 c, .int .i64 v, .int .i64 q, .string d]] w fun e w' => e = .returned (.bool b) ∧ Below w.heap.size w w' := by
  subst h; exact specFrameOk_any p g c v q d w hd
theorem specFarmOk_is (s wt ag : Bool) (c n : Int) (w : World) (b : Bool) (h : faOk wt ag c n = b) :
    Calls Try.prog 11 #[.agg #[.bool s, .bool wt, .bool ag, .int .i64 c, .int .i64 n]] w fun e w' => e = .returned (.bool b) ∧ Below w.heap.size w w' := by
  subst h; exact specFarmOk_any s wt ag c n w
set_option maxRecDepth 100000 in
set_option maxHeartbeats 8000000 in
theorem FnFarmFar_walk (a : Option Addr) (len cap : Nat) (zs : List Int) (w : World) (h : IsRow .u8 w a len cap zs) :
    Calls Try.prog 5 #[.slice a len cap] w fun e w' => e = .returned (.bool true) ∧ Below w.heap.size w w' := by
  have H : Hid _ := h
  clear h
  by_cases hbig : 1048576 < (len : Int)
  · go_enter Try.func5, Try.ntmps5
    go_wp2_with fail
    go_ret
    exact ⟨rfl, Below.refl _ _⟩
  go_enter Try.func5, Try.ntmps5
  go_wp2_with fail
  refine (DrawFarmHear_any a len cap zs _ H.out).mono ?_
  rintro e w1 ⟨fs, fw, fa, fc, fn, xp, xg, xc, xv, xq, xd, room, hn0, hn1, hc0, hc1, hv0, hv1, hq0, hq1, hd, rfl, hb1⟩
  have HB1 : Hid (Below w.heap.size w w1) := hb1
  clear hb1
  go_wp2_with fail
  have hdm : xd.size ≤ maxLen := by unfold maxLen; omega
  have Gf : ((w1.alloc (.cells #[.bool fs, .bool fw, .bool fa, .int .i64 fc, .int .i64 fn] 24)).alloc (.cells #[.bool xp, .bool xg, .int .i64 xc, .int .i64 xv, .int .i64 xq, .string xd] 26)).heap[w1.heap.size]? = some (.cells #[.bool fs, .bool fw, .bool fa, .int .i64 fc, .int .i64 fn] 24) := get_alloc (get_new rfl) (by simp)
  have Gx : ((w1.alloc (.cells #[.bool fs, .bool fw, .bool fa, .int .i64 fc, .int .i64 fn] 24)).alloc (.cells #[.bool xp, .bool xg, .int .i64 xc, .int .i64 xv, .int .i64 xq, .string xd] 26)).heap[w1.heap.size + 1]? = some (.cells #[.bool xp, .bool xg, .int .i64 xc, .int .i64 xv, .int .i64 xq, .string xd] 26) := get_new (by simp)
  have HB : Hid (Below w.heap.size w ((w1.alloc (.cells #[.bool fs, .bool fw, .bool fa, .int .i64 fc, .int .i64 fn] 24)).alloc (.cells #[.bool xp, .bool xg, .int .i64 xc, .int .i64 xv, .int .i64 xq, .string xd] 26))) := (HB1.out.alloc HB1.out.size _).alloc (by have := HB1.out.size; simp; omega) _
  generalize ((w1.alloc (.cells #[.bool fs, .bool fw, .bool fa, .int .i64 fc, .int .i64 fn] 24)).alloc (.cells #[.bool xp, .bool xg, .int .i64 xc, .int .i64 xv, .int .i64 xq, .string xd] 26)) = wr at *
  have hOk : ∀ (b : Bool) (s wt ag : Bool) (c n : Int) (W : World), faOk wt ag c n = b → Calls Try.prog 16 #[.agg #[.bool s, .bool wt, .bool ag, .int .i64 c, .int .i64 n]] W fun e w' => e = .returned (.bool b) ∧ Below W.heap.size W w' := by
    intro b s wt ag c n W h
    have := implFarmOk_any s wt ag c n W
    rw [h] at this
    exact this
  have HOK : Hid _ := hOk
  clear hOk
  clear HB1
  cases hf : faOk fw fa fc fn
  · have HF : Hid _ := hf
    clear hf
    obtain ⟨f0, f1, f2, f3, f4⟩ := cells5_of Gf
    obtain ⟨x0, x1, x2, x3, x4, x5⟩ := cells6_of Gx
    have Sf : w1.heap.size < wr.heap.size := size_of_get Gf
    have Sx : w1.heap.size + 1 < wr.heap.size := size_of_get Gx
    have HDwa : Below wr.heap.size wr wr.drew ∧ wr.drew.cell? ⟨w1.heap.size, 0, none⟩ = some (.bool fs) ∧ wr.drew.cell? ⟨w1.heap.size, 1, none⟩ = some (.bool fw) ∧ wr.drew.cell? ⟨w1.heap.size, 2, none⟩ = some (.bool fa) ∧ wr.drew.cell? ⟨w1.heap.size, 3, none⟩ = some (.int .i64 fc) ∧ wr.drew.cell? ⟨w1.heap.size, 4, none⟩ = some (.int .i64 fn) ∧ wr.drew.cell? ⟨w1.heap.size + 1, 0, none⟩ = some (.bool xp) ∧ wr.drew.cell? ⟨w1.heap.size + 1, 1, none⟩ = some (.bool xg) ∧ wr.drew.cell? ⟨w1.heap.size + 1, 2, none⟩ = some (.int .i64 xc) ∧ wr.drew.cell? ⟨w1.heap.size + 1, 3, none⟩ = some (.int .i64 xv) ∧ wr.drew.cell? ⟨w1.heap.size + 1, 4, none⟩ = some (.int .i64 xq) ∧ wr.drew.cell? ⟨w1.heap.size + 1, 5, none⟩ = some (.string xd) := ⟨(Below.refl _ _).drew, f0, f1, f2, f3, f4, x0, x1, x2, x3, x4, x5⟩
    go_region_with ((first | (go_at_call 16; refine (HOK.out _ _ _ _ _ _ _ HF.out).mono ?_; rintro e wa ⟨rfl, hb8⟩; have HK := keepC11 (by with_reducible assumption) hb8; clear hb8; have HKs := HK; obtain ⟨hBs, q0, q1, q2, q3, q4, q5, q6, q7, q8, q9, q10⟩ := HKs; clear hBs) | (go_at_call 11; refine (specFarmOk_is _ _ _ _ _ _ _ HF.out).mono ?_; rintro e wa ⟨rfl, hb8⟩; have HK := keepC11 (by with_reducible assumption) hb8; clear hb8; have HKs := HK; obtain ⟨hBs, q0, q1, q2, q3, q4, q5, q6, q7, q8, q9, q10⟩ := HKs; clear hBs)))
    all_goals
      clear f0 f1 f2 f3 f4 x0 x1 x2 x3 x4 x5 Sf Sx
      go_wp2_with fail
      clear HDwa
      have Gf := get_below HK.1 Gf (size_of_get Gf)
      have Gx := get_below HK.1 Gx (size_of_get Gx)
      have HB : Hid (Below w.heap.size w wa) := HB.out.trans (HK.1.mono HB.out.size)
      clear HK
      obtain ⟨f0, f1, f2, f3, f4⟩ := cells5_of Gf
      obtain ⟨x0, x1, x2, x3, x4, x5⟩ := cells6_of Gx
      have Sf : w1.heap.size < wa.heap.size := size_of_get Gf
      have Sx : w1.heap.size + 1 < wa.heap.size := size_of_get Gx
      have HDwz : Below wa.heap.size wa wa.drew ∧ wa.drew.cell? ⟨w1.heap.size, 0, none⟩ = some (.bool fs) ∧ wa.drew.cell? ⟨w1.heap.size, 1, none⟩ = some (.bool fw) ∧ wa.drew.cell? ⟨w1.heap.size, 2, none⟩ = some (.bool fa) ∧ wa.drew.cell? ⟨w1.heap.size, 3, none⟩ = some (.int .i64 fc) ∧ wa.drew.cell? ⟨w1.heap.size, 4, none⟩ = some (.int .i64 fn) ∧ wa.drew.cell? ⟨w1.heap.size + 1, 0, none⟩ = some (.bool xp) ∧ wa.drew.cell? ⟨w1.heap.size + 1, 1, none⟩ = some (.bool xg) ∧ wa.drew.cell? ⟨w1.heap.size + 1, 2, none⟩ = some (.int .i64 xc) ∧ wa.drew.cell? ⟨w1.heap.size + 1, 3, none⟩ = some (.int .i64 xv) ∧ wa.drew.cell? ⟨w1.heap.size + 1, 4, none⟩ = some (.int .i64 xq) ∧ wa.drew.cell? ⟨w1.heap.size + 1, 5, none⟩ = some (.string xd) := ⟨(Below.refl _ _).drew, f0, f1, f2, f3, f4, x0, x1, x2, x3, x4, x5⟩
      clear f0 f1 f2 f3 f4 x0 x1 x2 x3 x4 x5
      go_region_held2 (fun W => Below wa.heap.size wa W ∧ W.cell? ⟨w1.heap.size, 0, none⟩ = some (.bool fs) ∧ W.cell? ⟨w1.heap.size, 1, none⟩ = some (.bool fw) ∧ W.cell? ⟨w1.heap.size, 2, none⟩ = some (.bool fa) ∧ W.cell? ⟨w1.heap.size, 3, none⟩ = some (.int .i64 fc) ∧ W.cell? ⟨w1.heap.size, 4, none⟩ = some (.int .i64 fn) ∧ W.cell? ⟨w1.heap.size + 1, 0, none⟩ = some (.bool xp) ∧ W.cell? ⟨w1.heap.size + 1, 1, none⟩ = some (.bool xg) ∧ W.cell? ⟨w1.heap.size + 1, 2, none⟩ = some (.int .i64 xc) ∧ W.cell? ⟨w1.heap.size + 1, 3, none⟩ = some (.int .i64 xv) ∧ W.cell? ⟨w1.heap.size + 1, 4, none⟩ = some (.int .i64 xq) ∧ W.cell? ⟨w1.heap.size + 1, 5, none⟩ = some (.string xd)) (first | with_reducible assumption) ((first | (go_at_call 16; refine (HOK.out _ _ _ _ _ _ _ HF.out).mono ?_; rintro e wz ⟨rfl, hb8⟩; have HK := keepC11 (by with_reducible assumption) hb8; clear hb8) | (go_at_call 11; refine (specFarmOk_is _ _ _ _ _ _ _ HF.out).mono ?_; rintro e wz ⟨rfl, hb8⟩; have HK := keepC11 (by with_reducible assumption) hb8; clear hb8)))
      clear Sf Sx
      have Gf := get_below HK.1 Gf (size_of_get Gf)
      have Gx := get_below HK.1 Gx (size_of_get Gx)
      have HB : Hid (Below w.heap.size w wz) := HB.out.trans (HK.1.mono HB.out.size)
      clear HK
      go_wp2_with fail
      go_ret
      exact ⟨rfl, HB.out⟩
  · have HF : Hid _ := hf
    clear hf
    cases hx : frOk xp xg xc xv xq xd
    · have HX : Hid _ := hx
      clear hx
      obtain ⟨f0, f1, f2, f3, f4⟩ := cells5_of Gf
      obtain ⟨x0, x1, x2, x3, x4, x5⟩ := cells6_of Gx
      have Sf : w1.heap.size < wr.heap.size := size_of_get Gf
      have Sx : w1.heap.size + 1 < wr.heap.size := size_of_get Gx
      have HDwa : Below wr.heap.size wr wr.drew ∧ wr.drew.cell? ⟨w1.heap.size, 0, none⟩ = some (.bool fs) ∧ wr.drew.cell? ⟨w1.heap.size, 1, none⟩ = some (.bool fw) ∧ wr.drew.cell? ⟨w1.heap.size, 2, none⟩ = some (.bool fa) ∧ wr.drew.cell? ⟨w1.heap.size, 3, none⟩ = some (.int .i64 fc) ∧ wr.drew.cell? ⟨w1.heap.size, 4, none⟩ = some (.int .i64 fn) ∧ wr.drew.cell? ⟨w1.heap.size + 1, 0, none⟩ = some (.bool xp) ∧ wr.drew.cell? ⟨w1.heap.size + 1, 1, none⟩ = some (.bool xg) ∧ wr.drew.cell? ⟨w1.heap.size + 1, 2, none⟩ = some (.int .i64 xc) ∧ wr.drew.cell? ⟨w1.heap.size + 1, 3, none⟩ = some (.int .i64 xv) ∧ wr.drew.cell? ⟨w1.heap.size + 1, 4, none⟩ = some (.int .i64 xq) ∧ wr.drew.cell? ⟨w1.heap.size + 1, 5, none⟩ = some (.string xd) := ⟨(Below.refl _ _).drew, f0, f1, f2, f3, f4, x0, x1, x2, x3, x4, x5⟩
      clear f0 f1 f2 f3 f4 x0 x1 x2 x3 x4 x5
      go_region_held2 (fun W => Below wr.heap.size wr W ∧ W.cell? ⟨w1.heap.size, 0, none⟩ = some (.bool fs) ∧ W.cell? ⟨w1.heap.size, 1, none⟩ = some (.bool fw) ∧ W.cell? ⟨w1.heap.size, 2, none⟩ = some (.bool fa) ∧ W.cell? ⟨w1.heap.size, 3, none⟩ = some (.int .i64 fc) ∧ W.cell? ⟨w1.heap.size, 4, none⟩ = some (.int .i64 fn) ∧ W.cell? ⟨w1.heap.size + 1, 0, none⟩ = some (.bool xp) ∧ W.cell? ⟨w1.heap.size + 1, 1, none⟩ = some (.bool xg) ∧ W.cell? ⟨w1.heap.size + 1, 2, none⟩ = some (.int .i64 xc) ∧ W.cell? ⟨w1.heap.size + 1, 3, none⟩ = some (.int .i64 xv) ∧ W.cell? ⟨w1.heap.size + 1, 4, none⟩ = some (.int .i64 xq) ∧ W.cell? ⟨w1.heap.size + 1, 5, none⟩ = some (.string xd)) (first | with_reducible assumption) ((first | (go_at_call 16; refine (HOK.out _ _ _ _ _ _ _ HF.out).mono ?_; rintro e wa ⟨rfl, hb8⟩; have HK := keepC11 (by with_reducible assumption) hb8; clear hb8) | (go_at_call 11; refine (specFarmOk_is _ _ _ _ _ _ _ HF.out).mono ?_; rintro e wa ⟨rfl, hb8⟩; have HK := keepC11 (by with_reducible assumption) hb8; clear hb8) | (go_at_call 12; refine (specFrameOk_is _ _ _ _ _ _ _ hdm _ HX.out).mono ?_; rintro e wa ⟨rfl, hb8⟩; have HK := keepC11 (by with_reducible assumption) hb8; clear hb8)))
      clear Sf Sx
      have Gf := get_below HK.1 Gf (size_of_get Gf)
      have Gx := get_below HK.1 Gx (size_of_get Gx)
      have HB : Hid (Below w.heap.size w wa) := HB.out.trans (HK.1.mono HB.out.size)
      clear HK
      go_wp2_with fail
      obtain ⟨f0, f1, f2, f3, f4⟩ := cells5_of Gf
      obtain ⟨x0, x1, x2, x3, x4, x5⟩ := cells6_of Gx
      have Sf : w1.heap.size < wa.heap.size := size_of_get Gf
      have Sx : w1.heap.size + 1 < wa.heap.size := size_of_get Gx
      have HDwz : Below wa.heap.size wa wa.drew ∧ wa.drew.cell? ⟨w1.heap.size, 0, none⟩ = some (.bool fs) ∧ wa.drew.cell? ⟨w1.heap.size, 1, none⟩ = some (.bool fw) ∧ wa.drew.cell? ⟨w1.heap.size, 2, none⟩ = some (.bool fa) ∧ wa.drew.cell? ⟨w1.heap.size, 3, none⟩ = some (.int .i64 fc) ∧ wa.drew.cell? ⟨w1.heap.size, 4, none⟩ = some (.int .i64 fn) ∧ wa.drew.cell? ⟨w1.heap.size + 1, 0, none⟩ = some (.bool xp) ∧ wa.drew.cell? ⟨w1.heap.size + 1, 1, none⟩ = some (.bool xg) ∧ wa.drew.cell? ⟨w1.heap.size + 1, 2, none⟩ = some (.int .i64 xc) ∧ wa.drew.cell? ⟨w1.heap.size + 1, 3, none⟩ = some (.int .i64 xv) ∧ wa.drew.cell? ⟨w1.heap.size + 1, 4, none⟩ = some (.int .i64 xq) ∧ wa.drew.cell? ⟨w1.heap.size + 1, 5, none⟩ = some (.string xd) := ⟨(Below.refl _ _).drew, f0, f1, f2, f3, f4, x0, x1, x2, x3, x4, x5⟩
      clear f0 f1 f2 f3 f4 x0 x1 x2 x3 x4 x5
      go_region_held2 (fun W => Below wa.heap.size wa W ∧ W.cell? ⟨w1.heap.size, 0, none⟩ = some (.bool fs) ∧ W.cell? ⟨w1.heap.size, 1, none⟩ = some (.bool fw) ∧ W.cell? ⟨w1.heap.size, 2, none⟩ = some (.bool fa) ∧ W.cell? ⟨w1.heap.size, 3, none⟩ = some (.int .i64 fc) ∧ W.cell? ⟨w1.heap.size, 4, none⟩ = some (.int .i64 fn) ∧ W.cell? ⟨w1.heap.size + 1, 0, none⟩ = some (.bool xp) ∧ W.cell? ⟨w1.heap.size + 1, 1, none⟩ = some (.bool xg) ∧ W.cell? ⟨w1.heap.size + 1, 2, none⟩ = some (.int .i64 xc) ∧ W.cell? ⟨w1.heap.size + 1, 3, none⟩ = some (.int .i64 xv) ∧ W.cell? ⟨w1.heap.size + 1, 4, none⟩ = some (.int .i64 xq) ∧ W.cell? ⟨w1.heap.size + 1, 5, none⟩ = some (.string xd)) (first | with_reducible assumption) ((first | (go_at_call 16; refine (HOK.out _ _ _ _ _ _ _ HF.out).mono ?_; rintro e wz ⟨rfl, hb8⟩; have HK := keepC11 (by with_reducible assumption) hb8; clear hb8) | (go_at_call 11; refine (specFarmOk_is _ _ _ _ _ _ _ HF.out).mono ?_; rintro e wz ⟨rfl, hb8⟩; have HK := keepC11 (by with_reducible assumption) hb8; clear hb8)))
      clear Sf Sx
      have Gf := get_below HK.1 Gf (size_of_get Gf)
      have Gx := get_below HK.1 Gx (size_of_get Gx)
      have HB : Hid (Below w.heap.size w wz) := HB.out.trans (HK.1.mono HB.out.size)
      clear HK
      go_wp2_with fail
      go_ret
      exact ⟨rfl, HB.out⟩
    · have HX : Hid _ := hx
      clear hx
      obtain ⟨c0, c3, n0, n1, _⟩ := faOk_bounds' HF.out
      obtain ⟨r0, r1, r2, r3, q0', q1'⟩ := fr_num HX.out
      obtain ⟨f0, f1, f2, f3, f4⟩ := cells5_of Gf
      obtain ⟨x0, x1, x2, x3, x4, x5⟩ := cells6_of Gx
      have Sf : w1.heap.size < wr.heap.size := size_of_get Gf
      have Sx : w1.heap.size + 1 < wr.heap.size := size_of_get Gx
      have HDwa : Below wr.heap.size wr wr.drew ∧ wr.drew.cell? ⟨w1.heap.size, 0, none⟩ = some (.bool fs) ∧ wr.drew.cell? ⟨w1.heap.size, 1, none⟩ = some (.bool fw) ∧ wr.drew.cell? ⟨w1.heap.size, 2, none⟩ = some (.bool fa) ∧ wr.drew.cell? ⟨w1.heap.size, 3, none⟩ = some (.int .i64 fc) ∧ wr.drew.cell? ⟨w1.heap.size, 4, none⟩ = some (.int .i64 fn) ∧ wr.drew.cell? ⟨w1.heap.size + 1, 0, none⟩ = some (.bool xp) ∧ wr.drew.cell? ⟨w1.heap.size + 1, 1, none⟩ = some (.bool xg) ∧ wr.drew.cell? ⟨w1.heap.size + 1, 2, none⟩ = some (.int .i64 xc) ∧ wr.drew.cell? ⟨w1.heap.size + 1, 3, none⟩ = some (.int .i64 xv) ∧ wr.drew.cell? ⟨w1.heap.size + 1, 4, none⟩ = some (.int .i64 xq) ∧ wr.drew.cell? ⟨w1.heap.size + 1, 5, none⟩ = some (.string xd) := ⟨(Below.refl _ _).drew, f0, f1, f2, f3, f4, x0, x1, x2, x3, x4, x5⟩
      clear f0 f1 f2 f3 f4 x0 x1 x2 x3 x4 x5
      go_region_held2 (fun W => Below wr.heap.size wr W ∧ W.cell? ⟨w1.heap.size, 0, none⟩ = some (.bool fs) ∧ W.cell? ⟨w1.heap.size, 1, none⟩ = some (.bool fw) ∧ W.cell? ⟨w1.heap.size, 2, none⟩ = some (.bool fa) ∧ W.cell? ⟨w1.heap.size, 3, none⟩ = some (.int .i64 fc) ∧ W.cell? ⟨w1.heap.size, 4, none⟩ = some (.int .i64 fn) ∧ W.cell? ⟨w1.heap.size + 1, 0, none⟩ = some (.bool xp) ∧ W.cell? ⟨w1.heap.size + 1, 1, none⟩ = some (.bool xg) ∧ W.cell? ⟨w1.heap.size + 1, 2, none⟩ = some (.int .i64 xc) ∧ W.cell? ⟨w1.heap.size + 1, 3, none⟩ = some (.int .i64 xv) ∧ W.cell? ⟨w1.heap.size + 1, 4, none⟩ = some (.int .i64 xq) ∧ W.cell? ⟨w1.heap.size + 1, 5, none⟩ = some (.string xd)) (first | with_reducible assumption) ((first | (go_at_call 16; refine (HOK.out _ _ _ _ _ _ _ HF.out).mono ?_; rintro e wa ⟨rfl, hb8⟩; have HK := keepC11 (by with_reducible assumption) hb8; clear hb8) | (go_at_call 11; refine (specFarmOk_is _ _ _ _ _ _ _ HF.out).mono ?_; rintro e wa ⟨rfl, hb8⟩; have HK := keepC11 (by with_reducible assumption) hb8; clear hb8) | (go_at_call 12; refine (specFrameOk_is _ _ _ _ _ _ _ hdm _ HX.out).mono ?_; rintro e wa ⟨rfl, hb8⟩; have HK := keepC11 (by with_reducible assumption) hb8; clear hb8)))
      clear Sf Sx
      have Gf := get_below HK.1 Gf (size_of_get Gf)
      have Gx := get_below HK.1 Gx (size_of_get Gx)
      have HB : Hid (Below w.heap.size w wa) := HB.out.trans (HK.1.mono HB.out.size)
      clear HK
      obtain ⟨f0, f1, f2, f3, f4⟩ := cells5_of Gf
      obtain ⟨x0, x1, x2, x3, x4, x5⟩ := cells6_of Gx
      have Sf : w1.heap.size < wa.heap.size := size_of_get Gf
      have Sx : w1.heap.size + 1 < wa.heap.size := size_of_get Gx
      go_wp2_with fail
      have hxr : frOk false false xc xv ((fn + 128) % 256) ⟨#[100]⟩ = true := fr_d (fr_parts HX.out).1 (fr_parts HX.out).2.1 (by simp [inB]; omega)
      have hxn : frOk false false xc xv fn ⟨#[100]⟩ = true := fr_d (fr_parts HX.out).1 (fr_parts HX.out).2.1 (by simp [inB]; omega)
      have hxo : frOk true true xc xv 0 ⟨#[0]⟩ = true := by unfold frOk; rw [(fr_parts HX.out).1, (fr_parts HX.out).2.1, show (⟨#[0]⟩ : ByteArray).size = 1 from rfl]; decide
      have hfo : faOk false false ((fc + 1) % 4) fn = true := by simp [faOk, inB]; omega
      have hdl : (⟨#[100]⟩ : ByteArray).size ≤ maxLen := by unfold maxLen; show 1 ≤ _; omega
      obtain ⟨k1, hk1, H1⟩ : ∃ k1 : Int, ((k1 = 3 ∧ fs = false) ∨ (k1 = 5 ∧ fs = true)) ∧ Hid (∀ W, Calls Try.prog 9 #[.agg #[.bool fs, .bool fw, .bool fa, .int .i64 fc, .int .i64 fn], .agg #[.bool false, .bool false, .int .i64 xc, .int .i64 xv, .int .i64 ((fn + 128) % 256), .string ⟨#[100]⟩], .bool true] W fun e w' => e = .returned (.tuple #[.agg #[.bool true, .bool fw, .bool fa, .int .i64 fc, .int .i64 fn], .int .i64 k1]) ∧ Below W.heap.size W w') := by
        cases fs
        · refine ⟨3, by simp, ?_⟩
          show ∀ W, _
          intro W
          have h := implFarmHear_any false fw fa fc fn false false xc xv ((fn + 128) % 256) ⟨#[100]⟩ true W hdl
          rw [fh_far HF.out hxr] at h
          exact h
        · refine ⟨5, by simp, ?_⟩
          show ∀ W, _
          intro W
          have h := implFarmHear_any true fw fa fc fn false false xc xv ((fn + 128) % 256) ⟨#[100]⟩ true W hdl
          rw [fh_shut HF.out hxr] at h
          exact h
      have H2 : Hid (∀ W, Calls Try.prog 9 #[.agg #[.bool true, .bool fw, .bool fa, .int .i64 fc, .int .i64 fn], .agg #[.bool false, .bool false, .int .i64 xc, .int .i64 xv, .int .i64 fn, .string ⟨#[100]⟩], .bool true] W fun e w' => e = .returned (.tuple #[.agg #[.bool true, .bool fw, .bool fa, .int .i64 fc, .int .i64 fn], .int .i64 5]) ∧ Below W.heap.size W w') := by
        intro W
        have h := implFarmHear_any true fw fa fc fn false false xc xv fn ⟨#[100]⟩ true W hdl
        rw [fh_shut HF.out hxn] at h
        exact h
      have H3 : Hid (∀ W, Calls Try.prog 9 #[.agg #[.bool true, .bool fw, .bool fa, .int .i64 fc, .int .i64 fn], .agg #[.bool true, .bool true, .int .i64 xc, .int .i64 xv, .int .i64 0, .string ⟨#[0]⟩], .bool true] W fun e w' => e = .returned (.tuple #[.agg #[.bool false, .bool false, .bool false, .int .i64 ((fc + 1) % 4), .int .i64 fn], .int .i64 7]) ∧ Below W.heap.size W w') := by
        intro W
        have h := implFarmHear_any true fw fa fc fn true true xc xv 0 ⟨#[0]⟩ true W zero_len
        rw [fh_open HF.out hxo] at h
        exact h
      have H4 : Hid (∀ W, Calls Try.prog 9 #[.agg #[.bool false, .bool false, .bool false, .int .i64 ((fc + 1) % 4), .int .i64 fn], .agg #[.bool false, .bool false, .int .i64 xc, .int .i64 xv, .int .i64 fn, .string ⟨#[100]⟩], .bool true] W fun e w' => e = .returned (.tuple #[.agg #[.bool false, .bool false, .bool false, .int .i64 ((fc + 1) % 4), .int .i64 ((fn + 1) % 256)], .int .i64 0]) ∧ Below W.heap.size W w') := by
        intro W
        have h := implFarmHear_any false false false ((fc + 1) % 4) fn false false xc xv fn ⟨#[100]⟩ true W hdl
        rw [fh_take hfo hxn] at h
        exact h
      have HO : Hid (∀ W, Calls Try.prog 17 #[.int .i64 xc, .int .i64 xv] W fun e w' => e = .returned (.agg #[.bool true, .bool true, .int .i64 xc, .int .i64 xv, .int .i64 0, .string ⟨#[0]⟩]) ∧ Below W.heap.size W w') := by
        intro W
        have h := implFarmOpen_any xc xv W
        rw [govV_yes hxo] at h
        exact h
      have HK1 : Hid _ := hk1
      clear hk1 hxr hxn hxo hfo hdl
      clear f0 f1 f2 f3 f4 x0 x1 x2 x3 x4 x5 Sf Sx
      have Gf : ((wa.alloc (.cells #[.bool false, .bool false, .int .i64 xc, .int .i64 xv, .int .i64 ((fn + 128) % 256), .string ⟨#[100]⟩] 26)).alloc (.cells #[.bool false, .bool false, .int .i64 xc, .int .i64 xv, .int .i64 fn, .string ⟨#[100]⟩] 26)).heap[w1.heap.size]? = some (.cells #[.bool fs, .bool fw, .bool fa, .int .i64 fc, .int .i64 fn] 24) := get_allocS (get_allocS Gf)
      have Gx : ((wa.alloc (.cells #[.bool false, .bool false, .int .i64 xc, .int .i64 xv, .int .i64 ((fn + 128) % 256), .string ⟨#[100]⟩] 26)).alloc (.cells #[.bool false, .bool false, .int .i64 xc, .int .i64 xv, .int .i64 fn, .string ⟨#[100]⟩] 26)).heap[w1.heap.size + 1]? = some (.cells #[.bool xp, .bool xg, .int .i64 xc, .int .i64 xv, .int .i64 xq, .string xd] 26) := get_allocS (get_allocS Gx)
      have Gr : ((wa.alloc (.cells #[.bool false, .bool false, .int .i64 xc, .int .i64 xv, .int .i64 ((fn + 128) % 256), .string ⟨#[100]⟩] 26)).alloc (.cells #[.bool false, .bool false, .int .i64 xc, .int .i64 xv, .int .i64 fn, .string ⟨#[100]⟩] 26)).heap[wa.heap.size]? = some (.cells #[.bool false, .bool false, .int .i64 xc, .int .i64 xv, .int .i64 ((fn + 128) % 256), .string ⟨#[100]⟩] 26) := get_alloc (get_new rfl) (by simp)
      have Gn : ((wa.alloc (.cells #[.bool false, .bool false, .int .i64 xc, .int .i64 xv, .int .i64 ((fn + 128) % 256), .string ⟨#[100]⟩] 26)).alloc (.cells #[.bool false, .bool false, .int .i64 xc, .int .i64 xv, .int .i64 fn, .string ⟨#[100]⟩] 26)).heap[wa.heap.size + 1]? = some (.cells #[.bool false, .bool false, .int .i64 xc, .int .i64 xv, .int .i64 fn, .string ⟨#[100]⟩] 26) := get_new (by simp)
      have HB : Hid (Below w.heap.size w ((wa.alloc (.cells #[.bool false, .bool false, .int .i64 xc, .int .i64 xv, .int .i64 ((fn + 128) % 256), .string ⟨#[100]⟩] 26)).alloc (.cells #[.bool false, .bool false, .int .i64 xc, .int .i64 xv, .int .i64 fn, .string ⟨#[100]⟩] 26))) := (HB.out.alloc HB.out.size _).alloc (by have := HB.out.size; simp; omega) _
      generalize ((wa.alloc (.cells #[.bool false, .bool false, .int .i64 xc, .int .i64 xv, .int .i64 ((fn + 128) % 256), .string ⟨#[100]⟩] 26)).alloc (.cells #[.bool false, .bool false, .int .i64 xc, .int .i64 xv, .int .i64 fn, .string ⟨#[100]⟩] 26)) = wq at *
      obtain ⟨f0, f1, f2, f3, f4⟩ := cells5_of Gf
      obtain ⟨x0, x1, x2, x3, x4, x5⟩ := cells6_of Gx
      obtain ⟨r0, r1, r2, r3, r4, r5⟩ := cells6_of Gr
      obtain ⟨n0, n1, n2, n3, n4, n5⟩ := cells6_of Gn
      have Sf : w1.heap.size < wq.heap.size := size_of_get Gf
      have Sx : w1.heap.size + 1 < wq.heap.size := size_of_get Gx
      have Sr : wa.heap.size < wq.heap.size := size_of_get Gr
      have Sn : wa.heap.size + 1 < wq.heap.size := size_of_get Gn
      refine (H1.out _).mono ?_
      rintro e wb ⟨rfl, hbb⟩
      clear f0 f1 f2 f3 f4 x0 x1 x2 x3 x4 x5 r0 r1 r2 r3 r4 r5 n0 n1 n2 n3 n4 n5 Sf Sx Sr Sn
      have Gf : wb.heap[w1.heap.size]? = some (.cells #[.bool fs, .bool fw, .bool fa, .int .i64 fc, .int .i64 fn] 24) := get_below hbb Gf (size_of_get Gf)
      have Gx : wb.heap[w1.heap.size + 1]? = some (.cells #[.bool xp, .bool xg, .int .i64 xc, .int .i64 xv, .int .i64 xq, .string xd] 26) := get_below hbb Gx (size_of_get Gx)
      have Gr : wb.heap[wa.heap.size]? = some (.cells #[.bool false, .bool false, .int .i64 xc, .int .i64 xv, .int .i64 ((fn + 128) % 256), .string ⟨#[100]⟩] 26) := get_below hbb Gr (size_of_get Gr)
      have Gn : wb.heap[wa.heap.size + 1]? = some (.cells #[.bool false, .bool false, .int .i64 xc, .int .i64 xv, .int .i64 fn, .string ⟨#[100]⟩] 26) := get_below hbb Gn (size_of_get Gn)
      have HB : Hid (Below w.heap.size w wb) := HB.out.trans (hbb.mono HB.out.size)
      clear hbb
      obtain ⟨f0, f1, f2, f3, f4⟩ := cells5_of Gf
      obtain ⟨x0, x1, x2, x3, x4, x5⟩ := cells6_of Gx
      obtain ⟨r0, r1, r2, r3, r4, r5⟩ := cells6_of Gr
      obtain ⟨n0, n1, n2, n3, n4, n5⟩ := cells6_of Gn
      have Sf : w1.heap.size < wb.heap.size := size_of_get Gf
      have Sx : w1.heap.size + 1 < wb.heap.size := size_of_get Gx
      have Sr : wa.heap.size < wb.heap.size := size_of_get Gr
      have Sn : wa.heap.size + 1 < wb.heap.size := size_of_get Gn
      go_wp2_with fail
      clear f0 f1 f2 f3 f4 x0 x1 x2 x3 x4 x5 r0 r1 r2 r3 r4 r5 n0 n1 n2 n3 n4 n5 Sf Sx Sr Sn
      have Gf : (wb.alloc (.cells #[.bool true, .bool fw, .bool fa, .int .i64 fc, .int .i64 fn] 24)).heap[w1.heap.size]? = some (.cells #[.bool fs, .bool fw, .bool fa, .int .i64 fc, .int .i64 fn] 24) := get_allocS Gf
      have Gx : (wb.alloc (.cells #[.bool true, .bool fw, .bool fa, .int .i64 fc, .int .i64 fn] 24)).heap[w1.heap.size + 1]? = some (.cells #[.bool xp, .bool xg, .int .i64 xc, .int .i64 xv, .int .i64 xq, .string xd] 26) := get_allocS Gx
      have Gr : (wb.alloc (.cells #[.bool true, .bool fw, .bool fa, .int .i64 fc, .int .i64 fn] 24)).heap[wa.heap.size]? = some (.cells #[.bool false, .bool false, .int .i64 xc, .int .i64 xv, .int .i64 ((fn + 128) % 256), .string ⟨#[100]⟩] 26) := get_allocS Gr
      have Gn : (wb.alloc (.cells #[.bool true, .bool fw, .bool fa, .int .i64 fc, .int .i64 fn] 24)).heap[wa.heap.size + 1]? = some (.cells #[.bool false, .bool false, .int .i64 xc, .int .i64 xv, .int .i64 fn, .string ⟨#[100]⟩] 26) := get_allocS Gn
      have Ga : (wb.alloc (.cells #[.bool true, .bool fw, .bool fa, .int .i64 fc, .int .i64 fn] 24)).heap[wb.heap.size]? = some (.cells #[.bool true, .bool fw, .bool fa, .int .i64 fc, .int .i64 fn] 24) := get_new rfl
      have HB : Hid (Below w.heap.size w (wb.alloc (.cells #[.bool true, .bool fw, .bool fa, .int .i64 fc, .int .i64 fn] 24))) := HB.out.alloc HB.out.size _
      generalize (wb.alloc (.cells #[.bool true, .bool fw, .bool fa, .int .i64 fc, .int .i64 fn] 24)) = wb2 at *
      obtain ⟨f0, f1, f2, f3, f4⟩ := cells5_of Gf
      obtain ⟨x0, x1, x2, x3, x4, x5⟩ := cells6_of Gx
      obtain ⟨r0, r1, r2, r3, r4, r5⟩ := cells6_of Gr
      obtain ⟨n0, n1, n2, n3, n4, n5⟩ := cells6_of Gn
      obtain ⟨a0, a1, a2, a3, a4⟩ := cells5_of Ga
      have Sf : w1.heap.size < wb2.heap.size := size_of_get Gf
      have Sx : w1.heap.size + 1 < wb2.heap.size := size_of_get Gx
      have Sr : wa.heap.size < wb2.heap.size := size_of_get Gr
      have Sn : wa.heap.size + 1 < wb2.heap.size := size_of_get Gn
      have Sa : wb.heap.size < wb2.heap.size := size_of_get Ga
      refine (H2.out _).mono ?_
      rintro e wd ⟨rfl, hbb⟩
      clear f0 f1 f2 f3 f4 x0 x1 x2 x3 x4 x5 r0 r1 r2 r3 r4 r5 n0 n1 n2 n3 n4 n5 a0 a1 a2 a3 a4 Sf Sx Sr Sn Sa
      have Gf : wd.heap[w1.heap.size]? = some (.cells #[.bool fs, .bool fw, .bool fa, .int .i64 fc, .int .i64 fn] 24) := get_below hbb Gf (size_of_get Gf)
      have Gx : wd.heap[w1.heap.size + 1]? = some (.cells #[.bool xp, .bool xg, .int .i64 xc, .int .i64 xv, .int .i64 xq, .string xd] 26) := get_below hbb Gx (size_of_get Gx)
      have Gr : wd.heap[wa.heap.size]? = some (.cells #[.bool false, .bool false, .int .i64 xc, .int .i64 xv, .int .i64 ((fn + 128) % 256), .string ⟨#[100]⟩] 26) := get_below hbb Gr (size_of_get Gr)
      have Gn : wd.heap[wa.heap.size + 1]? = some (.cells #[.bool false, .bool false, .int .i64 xc, .int .i64 xv, .int .i64 fn, .string ⟨#[100]⟩] 26) := get_below hbb Gn (size_of_get Gn)
      have Ga : wd.heap[wb.heap.size]? = some (.cells #[.bool true, .bool fw, .bool fa, .int .i64 fc, .int .i64 fn] 24) := get_below hbb Ga (size_of_get Ga)
      have HB : Hid (Below w.heap.size w wd) := HB.out.trans (hbb.mono HB.out.size)
      clear hbb
      obtain ⟨f0, f1, f2, f3, f4⟩ := cells5_of Gf
      obtain ⟨x0, x1, x2, x3, x4, x5⟩ := cells6_of Gx
      obtain ⟨r0, r1, r2, r3, r4, r5⟩ := cells6_of Gr
      obtain ⟨n0, n1, n2, n3, n4, n5⟩ := cells6_of Gn
      obtain ⟨a0, a1, a2, a3, a4⟩ := cells5_of Ga
      have Sf : w1.heap.size < wd.heap.size := size_of_get Gf
      have Sx : w1.heap.size + 1 < wd.heap.size := size_of_get Gx
      have Sr : wa.heap.size < wd.heap.size := size_of_get Gr
      have Sn : wa.heap.size + 1 < wd.heap.size := size_of_get Gn
      have Sa : wb.heap.size < wd.heap.size := size_of_get Ga
      go_wp2_with fail
      clear f0 f1 f2 f3 f4 x0 x1 x2 x3 x4 x5 r0 r1 r2 r3 r4 r5 n0 n1 n2 n3 n4 n5 a0 a1 a2 a3 a4 Sf Sx Sr Sn Sa
      have Gf : (wd.alloc (.cells #[.bool true, .bool fw, .bool fa, .int .i64 fc, .int .i64 fn] 24)).heap[w1.heap.size]? = some (.cells #[.bool fs, .bool fw, .bool fa, .int .i64 fc, .int .i64 fn] 24) := get_allocS Gf
      have Gx : (wd.alloc (.cells #[.bool true, .bool fw, .bool fa, .int .i64 fc, .int .i64 fn] 24)).heap[w1.heap.size + 1]? = some (.cells #[.bool xp, .bool xg, .int .i64 xc, .int .i64 xv, .int .i64 xq, .string xd] 26) := get_allocS Gx
      have Gr : (wd.alloc (.cells #[.bool true, .bool fw, .bool fa, .int .i64 fc, .int .i64 fn] 24)).heap[wa.heap.size]? = some (.cells #[.bool false, .bool false, .int .i64 xc, .int .i64 xv, .int .i64 ((fn + 128) % 256), .string ⟨#[100]⟩] 26) := get_allocS Gr
      have Gn : (wd.alloc (.cells #[.bool true, .bool fw, .bool fa, .int .i64 fc, .int .i64 fn] 24)).heap[wa.heap.size + 1]? = some (.cells #[.bool false, .bool false, .int .i64 xc, .int .i64 xv, .int .i64 fn, .string ⟨#[100]⟩] 26) := get_allocS Gn
      have Ga : (wd.alloc (.cells #[.bool true, .bool fw, .bool fa, .int .i64 fc, .int .i64 fn] 24)).heap[wb.heap.size]? = some (.cells #[.bool true, .bool fw, .bool fa, .int .i64 fc, .int .i64 fn] 24) := get_allocS Ga
      have Gb : (wd.alloc (.cells #[.bool true, .bool fw, .bool fa, .int .i64 fc, .int .i64 fn] 24)).heap[wd.heap.size]? = some (.cells #[.bool true, .bool fw, .bool fa, .int .i64 fc, .int .i64 fn] 24) := get_new rfl
      have HB : Hid (Below w.heap.size w (wd.alloc (.cells #[.bool true, .bool fw, .bool fa, .int .i64 fc, .int .i64 fn] 24))) := HB.out.alloc HB.out.size _
      generalize (wd.alloc (.cells #[.bool true, .bool fw, .bool fa, .int .i64 fc, .int .i64 fn] 24)) = wd2 at *
      obtain ⟨f0, f1, f2, f3, f4⟩ := cells5_of Gf
      obtain ⟨x0, x1, x2, x3, x4, x5⟩ := cells6_of Gx
      obtain ⟨r0, r1, r2, r3, r4, r5⟩ := cells6_of Gr
      obtain ⟨n0, n1, n2, n3, n4, n5⟩ := cells6_of Gn
      obtain ⟨a0, a1, a2, a3, a4⟩ := cells5_of Ga
      obtain ⟨b0, b1, b2, b3, b4⟩ := cells5_of Gb
      have Sf : w1.heap.size < wd2.heap.size := size_of_get Gf
      have Sx : w1.heap.size + 1 < wd2.heap.size := size_of_get Gx
      have Sr : wa.heap.size < wd2.heap.size := size_of_get Gr
      have Sn : wa.heap.size + 1 < wd2.heap.size := size_of_get Gn
      have Sa : wb.heap.size < wd2.heap.size := size_of_get Ga
      have Sb : wd.heap.size < wd2.heap.size := size_of_get Gb
      clear f0 f1 f2 f3 f4 r0 r1 r2 r3 r4 r5 n0 n1 n2 n3 n4 n5 a0 a1 a2 a3 a4
      have HGf : Hid _ := Gf
      clear Gf
      have HGx : Hid _ := Gx
      clear Gx
      have HGr : Hid _ := Gr
      clear Gr
      have HGn : Hid _ := Gn
      clear Gn
      have HGa : Hid _ := Ga
      clear Ga
      have HGb : Hid _ := Gb
      clear Gb
      have HDz : Below wd2.heap.size wd2 wd2.drew ∧ wd2.drew.cell? ⟨wd.heap.size, 0, none⟩ = some (.bool true) ∧ wd2.drew.cell? ⟨wd.heap.size, 1, none⟩ = some (.bool fw) ∧ wd2.drew.cell? ⟨wd.heap.size, 2, none⟩ = some (.bool fa) ∧ wd2.drew.cell? ⟨wd.heap.size, 3, none⟩ = some (.int .i64 fc) ∧ wd2.drew.cell? ⟨wd.heap.size, 4, none⟩ = some (.int .i64 fn) ∧ wd2.drew.cell? ⟨w1.heap.size + 1, 0, none⟩ = some (.bool xp) ∧ wd2.drew.cell? ⟨w1.heap.size + 1, 1, none⟩ = some (.bool xg) ∧ wd2.drew.cell? ⟨w1.heap.size + 1, 2, none⟩ = some (.int .i64 xc) ∧ wd2.drew.cell? ⟨w1.heap.size + 1, 3, none⟩ = some (.int .i64 xv) ∧ wd2.drew.cell? ⟨w1.heap.size + 1, 4, none⟩ = some (.int .i64 xq) ∧ wd2.drew.cell? ⟨w1.heap.size + 1, 5, none⟩ = some (.string xd) := ⟨(Below.refl _ _).drew, b0, b1, b2, b3, b4, x0, x1, x2, x3, x4, x5⟩
      clear b0 b1 b2 b3 b4 x0 x1 x2 x3 x4 x5
      go_cut [12, 13] (fun u0 u1 wx => ∃ b, u0 = .pointer (some ⟨b, 0, none⟩) ∧ u1 = .int .i64 7 ∧ wd2.heap.size ≤ b ∧ wx.heap[b]? = some (.cells #[.bool false, .bool false, .bool false, .int .i64 ((fc + 1) % 4), .int .i64 fn] 24) ∧ Below wd2.heap.size wd2 wx)
      case first =>
        go_region_held2 (fun W => Below wd2.heap.size wd2 W ∧ W.cell? ⟨wd.heap.size, 0, none⟩ = some (.bool true) ∧ W.cell? ⟨wd.heap.size, 1, none⟩ = some (.bool fw) ∧ W.cell? ⟨wd.heap.size, 2, none⟩ = some (.bool fa) ∧ W.cell? ⟨wd.heap.size, 3, none⟩ = some (.int .i64 fc) ∧ W.cell? ⟨wd.heap.size, 4, none⟩ = some (.int .i64 fn) ∧ W.cell? ⟨w1.heap.size + 1, 0, none⟩ = some (.bool xp) ∧ W.cell? ⟨w1.heap.size + 1, 1, none⟩ = some (.bool xg) ∧ W.cell? ⟨w1.heap.size + 1, 2, none⟩ = some (.int .i64 xc) ∧ W.cell? ⟨w1.heap.size + 1, 3, none⟩ = some (.int .i64 xv) ∧ W.cell? ⟨w1.heap.size + 1, 4, none⟩ = some (.int .i64 xq) ∧ W.cell? ⟨w1.heap.size + 1, 5, none⟩ = some (.string xd)) (first | with_reducible assumption | with_reducible exact keepA11 (by with_reducible assumption) _ | with_reducible exact keepAd11 (by with_reducible assumption) _ | with_reducible exact keepS11 (keepS11 (keepS11 (keepS11 (keepS11 (by with_reducible assumption) (by omega) (by simp <;> omega)) (by omega) (by simp <;> omega)) (by omega) (by simp <;> omega)) (by omega) (by simp <;> omega)) (by omega) (by simp <;> omega)) ((first | (go_at_call 17; refine (HO.out _).mono ?_; rintro e wza ⟨rfl, hbza⟩; have HKza := keepC11 (by with_reducible assumption) hbza; obtain ⟨hcza, hfza⟩ := bcell0 hbza; (try have hqzawd2 : wd2.heap.size < wza.heap.size := (by have := hbza.size; (try simp at this); omega)); have HXza : Hid _ := hbza; clear hbza; have hkza : wd2.heap.size ≤ wza.heap.size := HKza.1.size) | (go_at_call 9; refine (H3.out _).mono ?_; rintro e wzb ⟨rfl, hbzb⟩; have HKzb := keepC11 (by with_reducible assumption) hbzb; obtain ⟨hczb, hfzb⟩ := bcell0 hbzb; (try have hqzbwd2 : wd2.heap.size < wzb.heap.size := (by have := hbzb.size; (try simp at this); omega)); (try have hqzbwza : wza.heap.size < wzb.heap.size := (by have := hbzb.size; (try simp at this); omega)); have HXzb : Hid _ := hbzb; clear hbzb; have hkzb : wd2.heap.size ≤ wzb.heap.size := HKzb.1.size)))
        all_goals
          go_wp2_with fail
          go_meet
          case rel =>
            first
            | (refine ⟨wzb.heap.size, ?_, ?_, ?_, ?_, ?_⟩; with_reducible rfl; with_reducible rfl; omega; exact get_new rfl; exact HKzb.1.alloc (by omega) _)
            | (refine ⟨wza.heap.size, ?_, ?_, ?_, ?_, ?_⟩; with_reducible rfl; with_reducible rfl; omega; exact get_set (get_set (get_set (get_set (get_set (get_hid HXzb (get_new rfl)) rfl) rfl) rfl) rfl) rfl; exact belowS (belowS (belowS (belowS (belowS (HKzb.1) (by omega)) (by omega)) (by omega)) (by omega)) (by omega))
            | (refine ⟨wd2.heap.size, ?_, ?_, ?_, ?_, ?_⟩; with_reducible rfl; with_reducible rfl; omega; exact get_set (get_set (get_set (get_set (get_set (get_hid HXzb (get_hid HXza (get_newD rfl))) rfl) rfl) rfl) rfl) rfl; exact belowS (belowS (belowS (belowS (belowS (HKzb.1) (by omega)) (by omega)) (by omega)) (by omega)) (by omega))
      case rest =>
        obtain ⟨bb, rfl, rfl, hgb, GGc, hB1⟩ := hcut
        have Gf := get_below hB1 HGf.out (size_of_get HGf.out)
        have Gx := get_below hB1 HGx.out (size_of_get HGx.out)
        have Gr := get_below hB1 HGr.out (size_of_get HGr.out)
        have Gn := get_below hB1 HGn.out (size_of_get HGn.out)
        have Ga := get_below hB1 HGa.out (size_of_get HGa.out)
        have Gb := get_below hB1 HGb.out (size_of_get HGb.out)
        have HB : Hid (Below w.heap.size w wc) := HB.out.trans (hB1.mono HB.out.size)
        have Gc : wc.heap[bb]? = some (.cells #[.bool false, .bool false, .bool false, .int .i64 ((fc + 1) % 4), .int .i64 fn] 24) := GGc
        clear GGc hB1 hgb HGf HGx HGr HGn HGa HGb
        obtain ⟨f0, f1, f2, f3, f4⟩ := cells5_of Gf
        obtain ⟨x0, x1, x2, x3, x4, x5⟩ := cells6_of Gx
        obtain ⟨r0, r1, r2, r3, r4, r5⟩ := cells6_of Gr
        obtain ⟨n0, n1, n2, n3, n4, n5⟩ := cells6_of Gn
        obtain ⟨a0, a1, a2, a3, a4⟩ := cells5_of Ga
        obtain ⟨b0, b1, b2, b3, b4⟩ := cells5_of Gb
        obtain ⟨c0, c1, c2, c3, c4⟩ := cells5_of Gc
        have Sf : w1.heap.size < wc.heap.size := size_of_get Gf
        have Sx : w1.heap.size + 1 < wc.heap.size := size_of_get Gx
        have Sr : wa.heap.size < wc.heap.size := size_of_get Gr
        have Sn : wa.heap.size + 1 < wc.heap.size := size_of_get Gn
        have Sa : wb.heap.size < wc.heap.size := size_of_get Ga
        have Sb : wd.heap.size < wc.heap.size := size_of_get Gb
        have Sc : bb < wc.heap.size := size_of_get Gc
        go_wp2_with fail
        refine (H4.out _).mono ?_
        rintro e we ⟨rfl, hbb⟩
        clear f0 f1 f2 f3 f4 x0 x1 x2 x3 x4 x5 r0 r1 r2 r3 r4 r5 n0 n1 n2 n3 n4 n5 a0 a1 a2 a3 a4 b0 b1 b2 b3 b4 c0 c1 c2 c3 c4 Sf Sx Sr Sn Sa Sb Sc
        have Gf : we.heap[w1.heap.size]? = some (.cells #[.bool fs, .bool fw, .bool fa, .int .i64 fc, .int .i64 fn] 24) := get_below hbb Gf (size_of_get Gf)
        have Gx : we.heap[w1.heap.size + 1]? = some (.cells #[.bool xp, .bool xg, .int .i64 xc, .int .i64 xv, .int .i64 xq, .string xd] 26) := get_below hbb Gx (size_of_get Gx)
        have Gr : we.heap[wa.heap.size]? = some (.cells #[.bool false, .bool false, .int .i64 xc, .int .i64 xv, .int .i64 ((fn + 128) % 256), .string ⟨#[100]⟩] 26) := get_below hbb Gr (size_of_get Gr)
        have Gn : we.heap[wa.heap.size + 1]? = some (.cells #[.bool false, .bool false, .int .i64 xc, .int .i64 xv, .int .i64 fn, .string ⟨#[100]⟩] 26) := get_below hbb Gn (size_of_get Gn)
        have Ga : we.heap[wb.heap.size]? = some (.cells #[.bool true, .bool fw, .bool fa, .int .i64 fc, .int .i64 fn] 24) := get_below hbb Ga (size_of_get Ga)
        have Gb : we.heap[wd.heap.size]? = some (.cells #[.bool true, .bool fw, .bool fa, .int .i64 fc, .int .i64 fn] 24) := get_below hbb Gb (size_of_get Gb)
        have Gc : we.heap[bb]? = some (.cells #[.bool false, .bool false, .bool false, .int .i64 ((fc + 1) % 4), .int .i64 fn] 24) := get_below hbb Gc (size_of_get Gc)
        have HB : Hid (Below w.heap.size w we) := HB.out.trans (hbb.mono HB.out.size)
        clear hbb
        obtain ⟨f0, f1, f2, f3, f4⟩ := cells5_of Gf
        obtain ⟨x0, x1, x2, x3, x4, x5⟩ := cells6_of Gx
        obtain ⟨r0, r1, r2, r3, r4, r5⟩ := cells6_of Gr
        obtain ⟨n0, n1, n2, n3, n4, n5⟩ := cells6_of Gn
        obtain ⟨a0, a1, a2, a3, a4⟩ := cells5_of Ga
        obtain ⟨b0, b1, b2, b3, b4⟩ := cells5_of Gb
        obtain ⟨c0, c1, c2, c3, c4⟩ := cells5_of Gc
        have Sf : w1.heap.size < we.heap.size := size_of_get Gf
        have Sx : w1.heap.size + 1 < we.heap.size := size_of_get Gx
        have Sr : wa.heap.size < we.heap.size := size_of_get Gr
        have Sn : wa.heap.size + 1 < we.heap.size := size_of_get Gn
        have Sa : wb.heap.size < we.heap.size := size_of_get Ga
        have Sb : wd.heap.size < we.heap.size := size_of_get Gb
        have Sc : bb < we.heap.size := size_of_get Gc
        have hk1 := HK1.out
        clear HK1 H1 H2 H3 H4 HO HOK
        have HB2 : Hid (∀ o, Below w.heap.size w (we.alloc o)) := fun o => HB.out.alloc HB.out.size o
        rcases hk1 with ⟨rfl, rfl⟩ | ⟨rfl, rfl⟩
        all_goals
          go_wp2_with fail
          go_ret
          exact ⟨rfl, HB2.out _⟩
theorem FnFarmFar_own : ownKnob Try.prog.godebug = none := by kernel_rfl
theorem FnFarmFar_laidOut : laidOutB Try.prog = true := by kernel_rfl
set_option maxRecDepth 100000 in
theorem FnFarmFar_lifted (os : Os) (started : os.Started) (H : Type) (enc : TypeId × Value → H) :
    ReturnsInHanded {} Try.checked os 5 .any (Rows.fnFarmFarSpec.pre6 enc Try.prog Try.f5 Rows.fnFarmFarRow.domain false) (Rows.fnFarmFarSpec.post enc Try.prog Try.f5 false true false false) := by
  refine returnsInHanded_of_change (C := Try.checked) FnFarmFar_own started (by kernel_rfl) Try.func5
    (ChangeSpec.witness6 (enc := enc) (C := Try.checked) false ⟨#[], #[.slice none 0 0], []⟩ 8 (by kernel_rfl) (by kernel_rfl) (by kernel_rfl) (by kernel_rfl)) ?_
  intro W base args ds gs before hval0 hW hcnd _
  have hval : ∀ (j : Nat) t v, Try.f5.params[j]? = some t → args[j]? = some v → Value.okWide Try.prog W .any base t v := hval0
  have hW' := hW
  obtain ⟨p, q, hA0, hV, rfl, hfz, hnd⟩ := hW
  have hA : DataW.TrodAll enc Try.prog W 0 (fun _ => true) true Try.f5.params.toList args.toList ds p := hA0
  rw [Try.params5] at hA hval
  obtain ⟨v0, vs0, d0, ds0, p0, q0, hargs, rfl, rfl, h0, r0⟩ := trodAll_cons hA
  obtain ⟨rfl, rfl, rfl⟩ := trodAll_nil r0
  obtain rfl : args = #[v0] := by cases args; simp_all
  obtain ⟨rfl, rfl⟩ := trodVars_none hV
  obtain ⟨a0, len0, cap0, rfl⟩ := okWide_slice Try.underlying22 (hval 0 22 v0 rfl rfl)
  have k0 := h0
  have lt0 : ∀ x ∈ p0, x.block < W.heap.size := by obtain ⟨m, hm⟩ := k0; exact DataW.trod_lt m _ _ _ hm
  obtain ⟨z0, w0⟩ : ∃ zs, IsRow .u8 W a0 len0 cap0 zs := by
    obtain ⟨fuel, hf⟩ := h0
    rcases open_ints Try.underlying22 Try.underlying5 (by kernel_rfl) hf with ⟨hcs, _⟩ | ⟨x, l, c, zs, hcs, _, hl, hm, hz, _, hcell, hwz⟩
    · simp [Value.cells] at hcs
      obtain ⟨rfl, rfl, rfl⟩ := hcs
      exact ⟨[], .inl ⟨rfl, rfl, rfl, rfl⟩⟩
    · simp [Value.cells] at hcs
      obtain ⟨rfl, rfl, rfl⟩ := hcs
      exact ⟨zs, .inr ⟨_, rfl, hl, hm, by simpa using hz, hcell, hwz⟩⟩
  clear hA0 hval0
  refine (FnFarmFar_walk a0 len0 cap0 z0 W w0).mono fun e W' ⟨he, bel⟩ => ?_
  subst he
  exact ⟨_, rfl, _, _, _, [], _, [], hW', trodAll_mk1 (shut_bool Try.underlying4 _), (trodAll_cons_mk (Below.trod FnFarmFar_laidOut (by kernel_rfl) (of_decide_eq_true (by kernel_rfl)) k0 bel lt0) trodAll_mk0), rfl, bel.frame _, fun h => by cases h⟩
theorem FnFarmFar_holds : Rows.FnFarmFarSaid :=
  OpenClaim.holds_of_wide 5 Try.f5 rfl rfl rfl rfl rfl rfl rfl ⟨rfl, rfl, rfl, rfl, rfl⟩ rfl rfl rfl rfl rfl (by kernel_rfl) Try.func5 (by kernel_rfl)
    (of_decide_eq_true (by kernel_rfl)) (by unfold Func.isWrapper; first | (rw [if_pos (by decide +kernel)]; kernel_rfl) | (rw [if_neg (by decide +kernel)]; exact ⟨rfl, rfl⟩))
    (fun os started H enc _ => FnFarmFar_lifted os started H enc)
#print axioms FnFarmFar_holds
end Go.Proofs.Ytfojljhpobdcdaa
