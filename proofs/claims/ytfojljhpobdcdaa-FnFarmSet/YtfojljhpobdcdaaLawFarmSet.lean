/- Proved: laws.FnFarmSet returns true at every two slices of bytes (who may say which number is next says it, unless all is shut), and leaves them as they were. No condition. -/
import Derived.Test.YtfojljhpobdcdaaDrawJ
import Derived.Test.YtfojljhpobdcdaaDrawS
import Derived.Test.YtfojljhpobdcdaaFaN
import Derived.Test.YtfojljhpobdcdaaFarmS
import Derived.Test.YtfojljhpobdcdaaKeepN
import Derived.Deep.RegionHeld2
import Derived.Deep.RegionWith
namespace Go.Proofs.Ytfojljhpobdcdaa
open Go.ChangeShapes Go.WideShapes Go.ChangeAt Go.RowKit
set_option linter.unusedVariables false

open Go.ChangeMaps (open_string shut_string)
theorem specFrameOk_is (p g : Bool) (c v q : Int) (d : ByteArray) (w : World) (hd : d.size ≤ maxLen) (b : Bool) (h : frOk p g c v q d = b) :
    Calls Try.prog 12 #[.agg #[.bool p, .bool g, .int .i64 c, .int .i64 v, .int .i64 q, .string d]] w fun e w' => e = .returned (.bool b) ∧ Below w.heap.size w w' := by
  subst h; exact specFrameOk_any p g c v q d w hd
theorem specFarmOk_is (s wt ag : Bool) (c n : Int) (w : World) (b : Bool) (h : faOk wt ag c n = b) :
    Calls Try.prog 11 #[.agg #[.bool s, .bool wt, .bool ag, .int .i64 c, .int .i64 n]] w fun e w' => e = .returned (.bool b) ∧ Below w.heap.size w w' := by
  subst h; exact specFarmOk_any s wt ag c n w
theorem setD_list (n : Int) : (setD n).data.toList = [130, 0, UInt8.ofNat n.toNat] := by simp [setD, pt]
theorem fh_set {s wt ag room : Bool} {c n cr v nx : Int} (hf : faOk wt ag c n = true) (hx : frOk true true cr v 0 (setD nx) = true) (h0 : 0 ≤ nx) (h1 : nx ≤ 255) :
    fh s wt ag c n true true cr v 0 (setD nx) room = (if s = true then (true, wt, ag, (c + 1) % 4, n, 7) else (false, false, false, (c + 1) % 4, nx, 7)) := by
  have e : max nx 0 % 256 = nx := by omega
  simp [fh, hf, hx, fhGov, openB, setOf, setD_list, e]
theorem frZero : frOk false false 0 0 0 ⟨#[]⟩ = false := by
  unfold frOk; rw [show (⟨#[]⟩ : ByteArray).size = 0 from rfl]; decide
theorem emptyLen : (⟨#[]⟩ : ByteArray).size ≤ maxLen := by show 0 ≤ maxLen; unfold maxLen; omega
set_option maxRecDepth 100000 in
set_option maxHeartbeats 8000000 in
theorem FnFarmSet_walk (a : Option Addr) (len cap : Nat) (zs : List Int) (a1 : Option Addr) (len1 cap1 : Nat) (zs1 : List Int) (w : World) (h : IsRow .u8 w a len cap zs) (h1 : IsRow .u8 w a1 len1 cap1 zs1) :
    Calls Try.prog 4 #[.slice a len cap, .slice a1 len1 cap1] w fun e w' => e = .returned (.bool true) ∧ Below w.heap.size w w' := by
  have H : Hid _ := h
  have H1 : Hid _ := h1
  clear h h1
  by_cases hbig : 1048576 < (len : Int)
  · go_enter Try.func4, Try.ntmps4
    go_wp2_with fail
    go_ret
    exact ⟨rfl, Below.refl _ _⟩
  by_cases hbig1 : 1048576 < (len1 : Int)
  · go_enter Try.func4, Try.ntmps4
    go_wp2_with fail
    go_ret
    exact ⟨rfl, Below.refl _ _⟩
  go_enter Try.func4, Try.ntmps4
  go_wp2_with fail
  refine (DrawFarmHear_any a len cap zs _ H.out).mono ?_
  rintro e w1 ⟨fs, fw, fa, fc, fn, xp, xg, xc, xv, xq, xd, room, hn0, hn1, hc0, hc1, hv0, hv1, hq0, hq1, hd, rfl, hb1⟩
  have HB1 : Hid (Below w.heap.size w w1) := hb1
  clear hb1 hn0 hn1 hc0 hc1 hv0 hv1 hq0 hq1 hd
  go_wp2_with fail
  have Gf : ((w1.alloc (.cells #[.bool fs, .bool fw, .bool fa, .int .i64 fc, .int .i64 fn] 24)).alloc (.cells #[.bool xp, .bool xg, .int .i64 xc, .int .i64 xv, .int .i64 xq, .string xd] 26)).heap[w1.heap.size]? = some (.cells #[.bool fs, .bool fw, .bool fa, .int .i64 fc, .int .i64 fn] 24) := get_alloc (get_new rfl) (by simp)
  have Gx : ((w1.alloc (.cells #[.bool fs, .bool fw, .bool fa, .int .i64 fc, .int .i64 fn] 24)).alloc (.cells #[.bool xp, .bool xg, .int .i64 xc, .int .i64 xv, .int .i64 xq, .string xd] 26)).heap[w1.heap.size + 1]? = some (.cells #[.bool xp, .bool xg, .int .i64 xc, .int .i64 xv, .int .i64 xq, .string xd] 26) := get_new (by simp)
  have HB : Hid (Below w.heap.size w ((w1.alloc (.cells #[.bool fs, .bool fw, .bool fa, .int .i64 fc, .int .i64 fn] 24)).alloc (.cells #[.bool xp, .bool xg, .int .i64 xc, .int .i64 xv, .int .i64 xq, .string xd] 26))) := (HB1.out.alloc HB1.out.size _).alloc (by have := HB1.out.size; simp; omega) _
  generalize ((w1.alloc (.cells #[.bool fs, .bool fw, .bool fa, .int .i64 fc, .int .i64 fn] 24)).alloc (.cells #[.bool xp, .bool xg, .int .i64 xc, .int .i64 xv, .int .i64 xq, .string xd] 26)) = wr at *
  have HR1 : Hid (IsRow .u8 wr a1 len1 cap1 zs1) := IsRow.keep H1.out HB.out
  clear HB1 H H1
  refine (DrawFarmSet_any a1 len1 cap1 zs1 _ HR1.out).mono ?_
  rintro e w2 ⟨cr, vv, nx, rfl, hbb⟩
  have Gf : w2.heap[w1.heap.size]? = some (.cells #[.bool fs, .bool fw, .bool fa, .int .i64 fc, .int .i64 fn] 24) := get_below hbb Gf (size_of_get Gf)
  have Gx : w2.heap[w1.heap.size + 1]? = some (.cells #[.bool xp, .bool xg, .int .i64 xc, .int .i64 xv, .int .i64 xq, .string xd] 26) := get_below hbb Gx (size_of_get Gx)
  have HB : Hid (Below w.heap.size w w2) := HB.out.trans (hbb.mono HB.out.size)
  clear hbb
  clear HR1
  go_wp2_with fail
  obtain ⟨HI, HP⟩ | ⟨hi, hz, HI, HP⟩ : (Hid (∀ W, Calls Try.prog 14 #[.int .i64 cr, .int .i64 vv, .int .i64 nx] W fun e w' => e = .returned (.agg #[.bool false, .bool false, .int .i64 0, .int .i64 0, .int .i64 0, .string ⟨#[]⟩]) ∧ Below W.heap.size W w') ∧ Hid (∀ W, Calls Try.prog 15 #[.int .i64 cr, .int .i64 vv, .int .i64 nx] W fun e w' => e = .returned (.agg #[.bool false, .bool false, .int .i64 0, .int .i64 0, .int .i64 0, .string ⟨#[]⟩]) ∧ Below W.heap.size W w')) ∨ (inB nx 0 255 = true ∧ Hid (frOk true true cr vv 0 (setD nx) = true) ∧ Hid (∀ W, Calls Try.prog 14 #[.int .i64 cr, .int .i64 vv, .int .i64 nx] W fun e w' => e = .returned (.agg #[.bool true, .bool true, .int .i64 cr, .int .i64 vv, .int .i64 0, .string (setD nx)]) ∧ Below W.heap.size W w') ∧ Hid (∀ W, Calls Try.prog 15 #[.int .i64 cr, .int .i64 vv, .int .i64 nx] W fun e w' => e = .returned (.agg #[.bool true, .bool true, .int .i64 cr, .int .i64 vv, .int .i64 0, .string (setD nx)]) ∧ Below W.heap.size W w')) := by
    cases h0 : inB nx 0 255
    · exact .inl ⟨fun W => implFarmSet_out cr vv nx W h0, fun W => specFarmSet_out cr vv nx W h0⟩
    · cases h1 : govB cr vv (setD nx)
      · exact .inl ⟨fun W => implFarmSet_no cr vv nx W h0 h1, fun W => specFarmSet_no cr vv nx W h0 h1⟩
      · exact .inr ⟨rfl, h1, fun W => implFarmSet_yes cr vv nx W h0 h1, fun W => specFarmSet_yes cr vv nx W h0 h1⟩
  · have HZ : Hid _ := frZero
    have he := emptyLen
    refine (HI.out _).mono ?_
    rintro e w3 ⟨rfl, hbb⟩
    have Gf : w3.heap[w1.heap.size]? = some (.cells #[.bool fs, .bool fw, .bool fa, .int .i64 fc, .int .i64 fn] 24) := get_below hbb Gf (size_of_get Gf)
    have Gx : w3.heap[w1.heap.size + 1]? = some (.cells #[.bool xp, .bool xg, .int .i64 xc, .int .i64 xv, .int .i64 xq, .string xd] 26) := get_below hbb Gx (size_of_get Gx)
    have HB : Hid (Below w.heap.size w w3) := HB.out.trans (hbb.mono HB.out.size)
    clear hbb
    go_wp2_with fail
    have Gf : (w3.alloc (.cells #[.bool false, .bool false, .int .i64 0, .int .i64 0, .int .i64 0, .string ⟨#[]⟩] 26)).heap[w1.heap.size]? = some (.cells #[.bool fs, .bool fw, .bool fa, .int .i64 fc, .int .i64 fn] 24) := get_allocS Gf
    have Gx : (w3.alloc (.cells #[.bool false, .bool false, .int .i64 0, .int .i64 0, .int .i64 0, .string ⟨#[]⟩] 26)).heap[w1.heap.size + 1]? = some (.cells #[.bool xp, .bool xg, .int .i64 xc, .int .i64 xv, .int .i64 xq, .string xd] 26) := get_allocS Gx
    have Gs : (w3.alloc (.cells #[.bool false, .bool false, .int .i64 0, .int .i64 0, .int .i64 0, .string ⟨#[]⟩] 26)).heap[w3.heap.size]? = some (.cells #[.bool false, .bool false, .int .i64 0, .int .i64 0, .int .i64 0, .string ⟨#[]⟩] 26) := get_new rfl
    have HB : Hid (Below w.heap.size w (w3.alloc (.cells #[.bool false, .bool false, .int .i64 0, .int .i64 0, .int .i64 0, .string ⟨#[]⟩] 26))) := HB.out.alloc HB.out.size _
    generalize (w3.alloc (.cells #[.bool false, .bool false, .int .i64 0, .int .i64 0, .int .i64 0, .string ⟨#[]⟩] 26)) = w4 at *
    obtain ⟨f0, f1, f2, f3, f4⟩ := cells5_of Gf
    obtain ⟨x0, x1, x2, x3, x4, x5⟩ := cells6_of Gx
    obtain ⟨s0, s1, s2, s3, s4, s5⟩ := cells6_of Gs
    have Sf : w1.heap.size < w4.heap.size := size_of_get Gf
    have Sx : w1.heap.size + 1 < w4.heap.size := size_of_get Gx
    have Ss : w3.heap.size < w4.heap.size := size_of_get Gs
    clear x0 x1 x2 x3 x4 x5
    have HDwa : Below w4.heap.size w4 w4.drew ∧ w4.drew.cell? ⟨w1.heap.size, 0, none⟩ = some (.bool fs) ∧ w4.drew.cell? ⟨w1.heap.size, 1, none⟩ = some (.bool fw) ∧ w4.drew.cell? ⟨w1.heap.size, 2, none⟩ = some (.bool fa) ∧ w4.drew.cell? ⟨w1.heap.size, 3, none⟩ = some (.int .i64 fc) ∧ w4.drew.cell? ⟨w1.heap.size, 4, none⟩ = some (.int .i64 fn) ∧ w4.drew.cell? ⟨w3.heap.size, 0, none⟩ = some (.bool false) ∧ w4.drew.cell? ⟨w3.heap.size, 1, none⟩ = some (.bool false) ∧ w4.drew.cell? ⟨w3.heap.size, 2, none⟩ = some (.int .i64 0) ∧ w4.drew.cell? ⟨w3.heap.size, 3, none⟩ = some (.int .i64 0) ∧ w4.drew.cell? ⟨w3.heap.size, 4, none⟩ = some (.int .i64 0) ∧ w4.drew.cell? ⟨w3.heap.size, 5, none⟩ = some (.string ⟨#[]⟩) := ⟨(Below.refl _ _).drew, f0, f1, f2, f3, f4, s0, s1, s2, s3, s4, s5⟩
    go_region_with ((first | (go_at_call 15; refine (HP.out _).mono ?_; rintro e wa ⟨rfl, hb8⟩; have HK := keepC11 (by with_reducible assumption) hb8; clear hb8; have HKs := HK; obtain ⟨hBs, q0, q1, q2, q3, q4, q5, q6, q7, q8, q9, q10⟩ := HKs; clear hBs) | (go_at_call 12; refine (specFrameOk_is _ _ _ _ _ _ _ he false HZ.out).mono ?_; rintro e wa ⟨rfl, hb8⟩; have HK := keepC11 (by with_reducible assumption) hb8; clear hb8; have HKs := HK; obtain ⟨hBs, q0, q1, q2, q3, q4, q5, q6, q7, q8, q9, q10⟩ := HKs; clear hBs)))
    all_goals
      clear f0 f1 f2 f3 f4 s0 s1 s2 s3 s4 s5 Sf Sx Ss
      go_wp2_with fail
      clear HDwa
      have Gf := get_below HK.1 Gf (size_of_get Gf)
      have Gx := get_below HK.1 Gx (size_of_get Gx)
      have Gs := get_below HK.1 Gs (size_of_get Gs)
      have HB : Hid (Below w.heap.size w wa) := HB.out.trans (HK.1.mono HB.out.size)
      clear HK
      obtain ⟨f0, f1, f2, f3, f4⟩ := cells5_of Gf
      obtain ⟨x0, x1, x2, x3, x4, x5⟩ := cells6_of Gx
      obtain ⟨s0, s1, s2, s3, s4, s5⟩ := cells6_of Gs
      have Sf : w1.heap.size < wa.heap.size := size_of_get Gf
      have Sx : w1.heap.size + 1 < wa.heap.size := size_of_get Gx
      have Ss : w3.heap.size < wa.heap.size := size_of_get Gs
      clear x0 x1 x2 x3 x4 x5
      have HDwz : Below wa.heap.size wa wa.drew ∧ wa.drew.cell? ⟨w1.heap.size, 0, none⟩ = some (.bool fs) ∧ wa.drew.cell? ⟨w1.heap.size, 1, none⟩ = some (.bool fw) ∧ wa.drew.cell? ⟨w1.heap.size, 2, none⟩ = some (.bool fa) ∧ wa.drew.cell? ⟨w1.heap.size, 3, none⟩ = some (.int .i64 fc) ∧ wa.drew.cell? ⟨w1.heap.size, 4, none⟩ = some (.int .i64 fn) ∧ wa.drew.cell? ⟨w3.heap.size, 0, none⟩ = some (.bool false) ∧ wa.drew.cell? ⟨w3.heap.size, 1, none⟩ = some (.bool false) ∧ wa.drew.cell? ⟨w3.heap.size, 2, none⟩ = some (.int .i64 0) ∧ wa.drew.cell? ⟨w3.heap.size, 3, none⟩ = some (.int .i64 0) ∧ wa.drew.cell? ⟨w3.heap.size, 4, none⟩ = some (.int .i64 0) ∧ wa.drew.cell? ⟨w3.heap.size, 5, none⟩ = some (.string ⟨#[]⟩) := ⟨(Below.refl _ _).drew, f0, f1, f2, f3, f4, s0, s1, s2, s3, s4, s5⟩
      clear f0 f1 f2 f3 f4 s0 s1 s2 s3 s4 s5
      go_region_held2 (fun W => Below wa.heap.size wa W ∧ W.cell? ⟨w1.heap.size, 0, none⟩ = some (.bool fs) ∧ W.cell? ⟨w1.heap.size, 1, none⟩ = some (.bool fw) ∧ W.cell? ⟨w1.heap.size, 2, none⟩ = some (.bool fa) ∧ W.cell? ⟨w1.heap.size, 3, none⟩ = some (.int .i64 fc) ∧ W.cell? ⟨w1.heap.size, 4, none⟩ = some (.int .i64 fn) ∧ W.cell? ⟨w3.heap.size, 0, none⟩ = some (.bool false) ∧ W.cell? ⟨w3.heap.size, 1, none⟩ = some (.bool false) ∧ W.cell? ⟨w3.heap.size, 2, none⟩ = some (.int .i64 0) ∧ W.cell? ⟨w3.heap.size, 3, none⟩ = some (.int .i64 0) ∧ W.cell? ⟨w3.heap.size, 4, none⟩ = some (.int .i64 0) ∧ W.cell? ⟨w3.heap.size, 5, none⟩ = some (.string ⟨#[]⟩)) (first | with_reducible assumption) ((first | (go_at_call 15; refine (HP.out _).mono ?_; rintro e wz ⟨rfl, hb8⟩; have HK := keepC11 (by with_reducible assumption) hb8; clear hb8)))
      clear Sf Sx Ss
      have Gf := get_below HK.1 Gf (size_of_get Gf)
      have Gx := get_below HK.1 Gx (size_of_get Gx)
      have Gs := get_below HK.1 Gs (size_of_get Gs)
      have HB : Hid (Below w.heap.size w wz) := HB.out.trans (HK.1.mono HB.out.size)
      clear HK
      go_wp2_with fail
      go_ret
      exact ⟨rfl, HB.out⟩
  · have he := setD_len nx
    obtain ⟨hx0, hx1⟩ := inB_bounds hi
    refine (HI.out _).mono ?_
    rintro e w3 ⟨rfl, hbb⟩
    have Gf : w3.heap[w1.heap.size]? = some (.cells #[.bool fs, .bool fw, .bool fa, .int .i64 fc, .int .i64 fn] 24) := get_below hbb Gf (size_of_get Gf)
    have Gx : w3.heap[w1.heap.size + 1]? = some (.cells #[.bool xp, .bool xg, .int .i64 xc, .int .i64 xv, .int .i64 xq, .string xd] 26) := get_below hbb Gx (size_of_get Gx)
    have HB : Hid (Below w.heap.size w w3) := HB.out.trans (hbb.mono HB.out.size)
    clear hbb
    go_wp2_with fail
    have Gf : (w3.alloc (.cells #[.bool true, .bool true, .int .i64 cr, .int .i64 vv, .int .i64 0, .string (setD nx)] 26)).heap[w1.heap.size]? = some (.cells #[.bool fs, .bool fw, .bool fa, .int .i64 fc, .int .i64 fn] 24) := get_allocS Gf
    have Gx : (w3.alloc (.cells #[.bool true, .bool true, .int .i64 cr, .int .i64 vv, .int .i64 0, .string (setD nx)] 26)).heap[w1.heap.size + 1]? = some (.cells #[.bool xp, .bool xg, .int .i64 xc, .int .i64 xv, .int .i64 xq, .string xd] 26) := get_allocS Gx
    have Gs : (w3.alloc (.cells #[.bool true, .bool true, .int .i64 cr, .int .i64 vv, .int .i64 0, .string (setD nx)] 26)).heap[w3.heap.size]? = some (.cells #[.bool true, .bool true, .int .i64 cr, .int .i64 vv, .int .i64 0, .string (setD nx)] 26) := get_new rfl
    have HB : Hid (Below w.heap.size w (w3.alloc (.cells #[.bool true, .bool true, .int .i64 cr, .int .i64 vv, .int .i64 0, .string (setD nx)] 26))) := HB.out.alloc HB.out.size _
    generalize (w3.alloc (.cells #[.bool true, .bool true, .int .i64 cr, .int .i64 vv, .int .i64 0, .string (setD nx)] 26)) = w4 at *
    cases hf : faOk fw fa fc fn
    · have HF : Hid _ := hf
      clear hf
      obtain ⟨f0, f1, f2, f3, f4⟩ := cells5_of Gf
      obtain ⟨x0, x1, x2, x3, x4, x5⟩ := cells6_of Gx
      obtain ⟨s0, s1, s2, s3, s4, s5⟩ := cells6_of Gs
      have Sf : w1.heap.size < w4.heap.size := size_of_get Gf
      have Sx : w1.heap.size + 1 < w4.heap.size := size_of_get Gx
      have Ss : w3.heap.size < w4.heap.size := size_of_get Gs
      clear x0 x1 x2 x3 x4 x5
      have HDwa : Below w4.heap.size w4 w4.drew ∧ w4.drew.cell? ⟨w1.heap.size, 0, none⟩ = some (.bool fs) ∧ w4.drew.cell? ⟨w1.heap.size, 1, none⟩ = some (.bool fw) ∧ w4.drew.cell? ⟨w1.heap.size, 2, none⟩ = some (.bool fa) ∧ w4.drew.cell? ⟨w1.heap.size, 3, none⟩ = some (.int .i64 fc) ∧ w4.drew.cell? ⟨w1.heap.size, 4, none⟩ = some (.int .i64 fn) ∧ w4.drew.cell? ⟨w3.heap.size, 0, none⟩ = some (.bool true) ∧ w4.drew.cell? ⟨w3.heap.size, 1, none⟩ = some (.bool true) ∧ w4.drew.cell? ⟨w3.heap.size, 2, none⟩ = some (.int .i64 cr) ∧ w4.drew.cell? ⟨w3.heap.size, 3, none⟩ = some (.int .i64 vv) ∧ w4.drew.cell? ⟨w3.heap.size, 4, none⟩ = some (.int .i64 0) ∧ w4.drew.cell? ⟨w3.heap.size, 5, none⟩ = some (.string (setD nx)) := ⟨(Below.refl _ _).drew, f0, f1, f2, f3, f4, s0, s1, s2, s3, s4, s5⟩
      clear f0 f1 f2 f3 f4 s0 s1 s2 s3 s4 s5
      go_region_held2 (fun W => Below w4.heap.size w4 W ∧ W.cell? ⟨w1.heap.size, 0, none⟩ = some (.bool fs) ∧ W.cell? ⟨w1.heap.size, 1, none⟩ = some (.bool fw) ∧ W.cell? ⟨w1.heap.size, 2, none⟩ = some (.bool fa) ∧ W.cell? ⟨w1.heap.size, 3, none⟩ = some (.int .i64 fc) ∧ W.cell? ⟨w1.heap.size, 4, none⟩ = some (.int .i64 fn) ∧ W.cell? ⟨w3.heap.size, 0, none⟩ = some (.bool true) ∧ W.cell? ⟨w3.heap.size, 1, none⟩ = some (.bool true) ∧ W.cell? ⟨w3.heap.size, 2, none⟩ = some (.int .i64 cr) ∧ W.cell? ⟨w3.heap.size, 3, none⟩ = some (.int .i64 vv) ∧ W.cell? ⟨w3.heap.size, 4, none⟩ = some (.int .i64 0) ∧ W.cell? ⟨w3.heap.size, 5, none⟩ = some (.string (setD nx))) (first | with_reducible assumption) ((first | (go_at_call 15; refine (HP.out _).mono ?_; rintro e wa ⟨rfl, hb8⟩; have HK := keepC11 (by with_reducible assumption) hb8; clear hb8) | (go_at_call 12; refine (specFrameOk_is _ _ _ _ _ _ _ he true hz.out).mono ?_; rintro e wa ⟨rfl, hb8⟩; have HK := keepC11 (by with_reducible assumption) hb8; clear hb8) | (go_at_call 11; refine (specFarmOk_is _ _ _ _ _ _ false HF.out).mono ?_; rintro e wa ⟨rfl, hb8⟩; have HK := keepC11 (by with_reducible assumption) hb8; clear hb8)))
      clear Sf Sx Ss
      go_wp2_with fail
      have Gf := get_below HK.1 Gf (size_of_get Gf)
      have Gx := get_below HK.1 Gx (size_of_get Gx)
      have Gs := get_below HK.1 Gs (size_of_get Gs)
      have HB : Hid (Below w.heap.size w wa) := HB.out.trans (HK.1.mono HB.out.size)
      clear HK
      obtain ⟨f0, f1, f2, f3, f4⟩ := cells5_of Gf
      obtain ⟨x0, x1, x2, x3, x4, x5⟩ := cells6_of Gx
      obtain ⟨s0, s1, s2, s3, s4, s5⟩ := cells6_of Gs
      have Sf : w1.heap.size < wa.heap.size := size_of_get Gf
      have Sx : w1.heap.size + 1 < wa.heap.size := size_of_get Gx
      have Ss : w3.heap.size < wa.heap.size := size_of_get Gs
      clear x0 x1 x2 x3 x4 x5
      have HDwz : Below wa.heap.size wa wa.drew ∧ wa.drew.cell? ⟨w1.heap.size, 0, none⟩ = some (.bool fs) ∧ wa.drew.cell? ⟨w1.heap.size, 1, none⟩ = some (.bool fw) ∧ wa.drew.cell? ⟨w1.heap.size, 2, none⟩ = some (.bool fa) ∧ wa.drew.cell? ⟨w1.heap.size, 3, none⟩ = some (.int .i64 fc) ∧ wa.drew.cell? ⟨w1.heap.size, 4, none⟩ = some (.int .i64 fn) ∧ wa.drew.cell? ⟨w3.heap.size, 0, none⟩ = some (.bool true) ∧ wa.drew.cell? ⟨w3.heap.size, 1, none⟩ = some (.bool true) ∧ wa.drew.cell? ⟨w3.heap.size, 2, none⟩ = some (.int .i64 cr) ∧ wa.drew.cell? ⟨w3.heap.size, 3, none⟩ = some (.int .i64 vv) ∧ wa.drew.cell? ⟨w3.heap.size, 4, none⟩ = some (.int .i64 0) ∧ wa.drew.cell? ⟨w3.heap.size, 5, none⟩ = some (.string (setD nx)) := ⟨(Below.refl _ _).drew, f0, f1, f2, f3, f4, s0, s1, s2, s3, s4, s5⟩
      clear f0 f1 f2 f3 f4 s0 s1 s2 s3 s4 s5
      go_region_held2 (fun W => Below wa.heap.size wa W ∧ W.cell? ⟨w1.heap.size, 0, none⟩ = some (.bool fs) ∧ W.cell? ⟨w1.heap.size, 1, none⟩ = some (.bool fw) ∧ W.cell? ⟨w1.heap.size, 2, none⟩ = some (.bool fa) ∧ W.cell? ⟨w1.heap.size, 3, none⟩ = some (.int .i64 fc) ∧ W.cell? ⟨w1.heap.size, 4, none⟩ = some (.int .i64 fn) ∧ W.cell? ⟨w3.heap.size, 0, none⟩ = some (.bool true) ∧ W.cell? ⟨w3.heap.size, 1, none⟩ = some (.bool true) ∧ W.cell? ⟨w3.heap.size, 2, none⟩ = some (.int .i64 cr) ∧ W.cell? ⟨w3.heap.size, 3, none⟩ = some (.int .i64 vv) ∧ W.cell? ⟨w3.heap.size, 4, none⟩ = some (.int .i64 0) ∧ W.cell? ⟨w3.heap.size, 5, none⟩ = some (.string (setD nx))) (first | with_reducible assumption) ((first | (go_at_call 15; refine (HP.out _).mono ?_; rintro e wz ⟨rfl, hb8⟩; have HK := keepC11 (by with_reducible assumption) hb8; clear hb8)))
      clear Sf Sx Ss
      have Gf := get_below HK.1 Gf (size_of_get Gf)
      have Gx := get_below HK.1 Gx (size_of_get Gx)
      have Gs := get_below HK.1 Gs (size_of_get Gs)
      have HB : Hid (Below w.heap.size w wz) := HB.out.trans (HK.1.mono HB.out.size)
      clear HK
      go_wp2_with fail
      go_ret
      exact ⟨rfl, HB.out⟩
    · have HF : Hid _ := hf
      clear hf
      obtain ⟨c0, c3, n0, n1, _⟩ := faOk_bounds' HF.out
      obtain ⟨f0, f1, f2, f3, f4⟩ := cells5_of Gf
      obtain ⟨x0, x1, x2, x3, x4, x5⟩ := cells6_of Gx
      obtain ⟨s0, s1, s2, s3, s4, s5⟩ := cells6_of Gs
      have Sf : w1.heap.size < w4.heap.size := size_of_get Gf
      have Sx : w1.heap.size + 1 < w4.heap.size := size_of_get Gx
      have Ss : w3.heap.size < w4.heap.size := size_of_get Gs
      clear x0 x1 x2 x3 x4 x5
      have HDwa : Below w4.heap.size w4 w4.drew ∧ w4.drew.cell? ⟨w1.heap.size, 0, none⟩ = some (.bool fs) ∧ w4.drew.cell? ⟨w1.heap.size, 1, none⟩ = some (.bool fw) ∧ w4.drew.cell? ⟨w1.heap.size, 2, none⟩ = some (.bool fa) ∧ w4.drew.cell? ⟨w1.heap.size, 3, none⟩ = some (.int .i64 fc) ∧ w4.drew.cell? ⟨w1.heap.size, 4, none⟩ = some (.int .i64 fn) ∧ w4.drew.cell? ⟨w3.heap.size, 0, none⟩ = some (.bool true) ∧ w4.drew.cell? ⟨w3.heap.size, 1, none⟩ = some (.bool true) ∧ w4.drew.cell? ⟨w3.heap.size, 2, none⟩ = some (.int .i64 cr) ∧ w4.drew.cell? ⟨w3.heap.size, 3, none⟩ = some (.int .i64 vv) ∧ w4.drew.cell? ⟨w3.heap.size, 4, none⟩ = some (.int .i64 0) ∧ w4.drew.cell? ⟨w3.heap.size, 5, none⟩ = some (.string (setD nx)) := ⟨(Below.refl _ _).drew, f0, f1, f2, f3, f4, s0, s1, s2, s3, s4, s5⟩
      clear f0 f1 f2 f3 f4 s0 s1 s2 s3 s4 s5
      go_region_held2 (fun W => Below w4.heap.size w4 W ∧ W.cell? ⟨w1.heap.size, 0, none⟩ = some (.bool fs) ∧ W.cell? ⟨w1.heap.size, 1, none⟩ = some (.bool fw) ∧ W.cell? ⟨w1.heap.size, 2, none⟩ = some (.bool fa) ∧ W.cell? ⟨w1.heap.size, 3, none⟩ = some (.int .i64 fc) ∧ W.cell? ⟨w1.heap.size, 4, none⟩ = some (.int .i64 fn) ∧ W.cell? ⟨w3.heap.size, 0, none⟩ = some (.bool true) ∧ W.cell? ⟨w3.heap.size, 1, none⟩ = some (.bool true) ∧ W.cell? ⟨w3.heap.size, 2, none⟩ = some (.int .i64 cr) ∧ W.cell? ⟨w3.heap.size, 3, none⟩ = some (.int .i64 vv) ∧ W.cell? ⟨w3.heap.size, 4, none⟩ = some (.int .i64 0) ∧ W.cell? ⟨w3.heap.size, 5, none⟩ = some (.string (setD nx))) (first | with_reducible assumption) ((first | (go_at_call 15; refine (HP.out _).mono ?_; rintro e wa ⟨rfl, hb8⟩; have HK := keepC11 (by with_reducible assumption) hb8; clear hb8) | (go_at_call 12; refine (specFrameOk_is _ _ _ _ _ _ _ he true hz.out).mono ?_; rintro e wa ⟨rfl, hb8⟩; have HK := keepC11 (by with_reducible assumption) hb8; clear hb8) | (go_at_call 11; refine (specFarmOk_is _ _ _ _ _ _ true HF.out).mono ?_; rintro e wa ⟨rfl, hb8⟩; have HK := keepC11 (by with_reducible assumption) hb8; clear hb8)))
      clear Sf Sx Ss
      have Gf := get_below HK.1 Gf (size_of_get Gf)
      have Gx := get_below HK.1 Gx (size_of_get Gx)
      have Gs := get_below HK.1 Gs (size_of_get Gs)
      have HB : Hid (Below w.heap.size w wa) := HB.out.trans (HK.1.mono HB.out.size)
      clear HK
      obtain ⟨f0, f1, f2, f3, f4⟩ := cells5_of Gf
      obtain ⟨x0, x1, x2, x3, x4, x5⟩ := cells6_of Gx
      obtain ⟨s0, s1, s2, s3, s4, s5⟩ := cells6_of Gs
      have Sf : w1.heap.size < wa.heap.size := size_of_get Gf
      have Sx : w1.heap.size + 1 < wa.heap.size := size_of_get Gx
      have Ss : w3.heap.size < wa.heap.size := size_of_get Gs
      go_wp2_with fail
      cases fs
      rotate_left
      · have H2 : Hid (∀ W, Calls Try.prog 9 #[.agg #[.bool true, .bool fw, .bool fa, .int .i64 fc, .int .i64 fn], .agg #[.bool true, .bool true, .int .i64 cr, .int .i64 vv, .int .i64 0, .string (setD nx)], .bool true] W fun e w' => e = .returned (.tuple #[.agg #[.bool true, .bool fw, .bool fa, .int .i64 ((fc + 1) % 4), .int .i64 fn], .int .i64 7]) ∧ Below W.heap.size W w') := by
          intro W
          have h := implFarmHear_any true fw fa fc fn true true cr vv 0 (setD nx) true W he
          rw [fh_set HF.out hz.out hx0 hx1] at h
          exact h
        refine (H2.out _).mono ?_
        rintro e wb ⟨rfl, hbb⟩
        clear f0 f1 f2 f3 f4 x0 x1 x2 x3 x4 x5 s0 s1 s2 s3 s4 s5 Sf Sx Ss
        have Gf : wb.heap[w1.heap.size]? = some (.cells #[.bool true, .bool fw, .bool fa, .int .i64 fc, .int .i64 fn] 24) := get_below hbb Gf (size_of_get Gf)
        have Gx : wb.heap[w1.heap.size + 1]? = some (.cells #[.bool xp, .bool xg, .int .i64 xc, .int .i64 xv, .int .i64 xq, .string xd] 26) := get_below hbb Gx (size_of_get Gx)
        have Gs : wb.heap[w3.heap.size]? = some (.cells #[.bool true, .bool true, .int .i64 cr, .int .i64 vv, .int .i64 0, .string (setD nx)] 26) := get_below hbb Gs (size_of_get Gs)
        have HB : Hid (Below w.heap.size w wb) := HB.out.trans (hbb.mono HB.out.size)
        clear hbb
        obtain ⟨f0, f1, f2, f3, f4⟩ := cells5_of Gf
        obtain ⟨x0, x1, x2, x3, x4, x5⟩ := cells6_of Gx
        obtain ⟨s0, s1, s2, s3, s4, s5⟩ := cells6_of Gs
        have Sf : w1.heap.size < wb.heap.size := size_of_get Gf
        have Sx : w1.heap.size + 1 < wb.heap.size := size_of_get Gx
        have Ss : w3.heap.size < wb.heap.size := size_of_get Gs
        have hm0 : 0 ≤ (fc + 1) % 4 := by omega
        have hm1 : (fc + 1) % 4 < 4 := by omega
        go_wp2_with fail
        go_ret
        exact ⟨rfl, HB.out.alloc HB.out.size _⟩
      · have H2 : Hid (∀ W, Calls Try.prog 9 #[.agg #[.bool false, .bool fw, .bool fa, .int .i64 fc, .int .i64 fn], .agg #[.bool true, .bool true, .int .i64 cr, .int .i64 vv, .int .i64 0, .string (setD nx)], .bool true] W fun e w' => e = .returned (.tuple #[.agg #[.bool false, .bool false, .bool false, .int .i64 ((fc + 1) % 4), .int .i64 nx], .int .i64 7]) ∧ Below W.heap.size W w') := by
          intro W
          have h := implFarmHear_any false fw fa fc fn true true cr vv 0 (setD nx) true W he
          rw [fh_set HF.out hz.out hx0 hx1] at h
          exact h
        refine (H2.out _).mono ?_
        rintro e wb ⟨rfl, hbb⟩
        clear f0 f1 f2 f3 f4 x0 x1 x2 x3 x4 x5 s0 s1 s2 s3 s4 s5 Sf Sx Ss
        have Gf : wb.heap[w1.heap.size]? = some (.cells #[.bool false, .bool fw, .bool fa, .int .i64 fc, .int .i64 fn] 24) := get_below hbb Gf (size_of_get Gf)
        have Gx : wb.heap[w1.heap.size + 1]? = some (.cells #[.bool xp, .bool xg, .int .i64 xc, .int .i64 xv, .int .i64 xq, .string xd] 26) := get_below hbb Gx (size_of_get Gx)
        have Gs : wb.heap[w3.heap.size]? = some (.cells #[.bool true, .bool true, .int .i64 cr, .int .i64 vv, .int .i64 0, .string (setD nx)] 26) := get_below hbb Gs (size_of_get Gs)
        have HB : Hid (Below w.heap.size w wb) := HB.out.trans (hbb.mono HB.out.size)
        clear hbb
        obtain ⟨f0, f1, f2, f3, f4⟩ := cells5_of Gf
        obtain ⟨x0, x1, x2, x3, x4, x5⟩ := cells6_of Gx
        obtain ⟨s0, s1, s2, s3, s4, s5⟩ := cells6_of Gs
        have Sf : w1.heap.size < wb.heap.size := size_of_get Gf
        have Sx : w1.heap.size + 1 < wb.heap.size := size_of_get Gx
        have Ss : w3.heap.size < wb.heap.size := size_of_get Gs
        have hm0 : 0 ≤ (fc + 1) % 4 := by omega
        have hm1 : (fc + 1) % 4 < 4 := by omega
        go_wp2_with fail
        clear f0 f1 f2 f3 f4 x0 x1 x2 x3 x4 x5 s0 s1 s2 s3 s4 s5 Sf Sx Ss
        have Gf : (wb.alloc (.cells #[.bool false, .bool false, .bool false, .int .i64 ((fc + 1) % 4), .int .i64 nx] 24)).heap[w1.heap.size]? = some (.cells #[.bool false, .bool fw, .bool fa, .int .i64 fc, .int .i64 fn] 24) := get_allocS Gf
        have Gx : (wb.alloc (.cells #[.bool false, .bool false, .bool false, .int .i64 ((fc + 1) % 4), .int .i64 nx] 24)).heap[w1.heap.size + 1]? = some (.cells #[.bool xp, .bool xg, .int .i64 xc, .int .i64 xv, .int .i64 xq, .string xd] 26) := get_allocS Gx
        have Gs : (wb.alloc (.cells #[.bool false, .bool false, .bool false, .int .i64 ((fc + 1) % 4), .int .i64 nx] 24)).heap[w3.heap.size]? = some (.cells #[.bool true, .bool true, .int .i64 cr, .int .i64 vv, .int .i64 0, .string (setD nx)] 26) := get_allocS Gs
        have Gy : (wb.alloc (.cells #[.bool false, .bool false, .bool false, .int .i64 ((fc + 1) % 4), .int .i64 nx] 24)).heap[wb.heap.size]? = some (.cells #[.bool false, .bool false, .bool false, .int .i64 ((fc + 1) % 4), .int .i64 nx] 24) := get_new rfl
        have HB : Hid (Below w.heap.size w (wb.alloc (.cells #[.bool false, .bool false, .bool false, .int .i64 ((fc + 1) % 4), .int .i64 nx] 24))) := HB.out.alloc HB.out.size _
        generalize (wb.alloc (.cells #[.bool false, .bool false, .bool false, .int .i64 ((fc + 1) % 4), .int .i64 nx] 24)) = wb2 at *
        have H3 : Hid (∀ W, Calls Try.prog 9 #[.agg #[.bool false, .bool false, .bool false, .int .i64 ((fc + 1) % 4), .int .i64 nx], .agg #[.bool false, .bool false, .int .i64 cr, .int .i64 vv, .int .i64 nx, .string ⟨#[100]⟩], .bool true] W fun e w' => e = .returned (.tuple #[.agg #[.bool false, .bool false, .bool false, .int .i64 ((fc + 1) % 4), .int .i64 ((nx + 1) % 256)], .int .i64 0]) ∧ Below W.heap.size W w') := by
          intro W
          have h := implFarmHear_any false false false ((fc + 1) % 4) nx false false cr vv nx ⟨#[100]⟩ true W (by unfold maxLen; show 1 ≤ _; omega)
          rw [fh_take (by simp [faOk, inB]; omega) (fr_d (fr_parts hz.out).1 (fr_parts hz.out).2.1 hi)] at h
          exact h
        refine (H3.out _).mono ?_
        rintro e wc ⟨rfl, hbb⟩
        have Gf : wc.heap[w1.heap.size]? = some (.cells #[.bool false, .bool fw, .bool fa, .int .i64 fc, .int .i64 fn] 24) := get_below hbb Gf (size_of_get Gf)
        have Gx : wc.heap[w1.heap.size + 1]? = some (.cells #[.bool xp, .bool xg, .int .i64 xc, .int .i64 xv, .int .i64 xq, .string xd] 26) := get_below hbb Gx (size_of_get Gx)
        have Gs : wc.heap[w3.heap.size]? = some (.cells #[.bool true, .bool true, .int .i64 cr, .int .i64 vv, .int .i64 0, .string (setD nx)] 26) := get_below hbb Gs (size_of_get Gs)
        have Gy : wc.heap[wb.heap.size]? = some (.cells #[.bool false, .bool false, .bool false, .int .i64 ((fc + 1) % 4), .int .i64 nx] 24) := get_below hbb Gy (size_of_get Gy)
        have HB : Hid (Below w.heap.size w wc) := HB.out.trans (hbb.mono HB.out.size)
        clear hbb
        obtain ⟨f0, f1, f2, f3, f4⟩ := cells5_of Gf
        obtain ⟨x0, x1, x2, x3, x4, x5⟩ := cells6_of Gx
        obtain ⟨s0, s1, s2, s3, s4, s5⟩ := cells6_of Gs
        obtain ⟨y0, y1, y2, y3, y4⟩ := cells5_of Gy
        have Sf : w1.heap.size < wc.heap.size := size_of_get Gf
        have Sx : w1.heap.size + 1 < wc.heap.size := size_of_get Gx
        have Ss : w3.heap.size < wc.heap.size := size_of_get Gs
        have Sy : wb.heap.size < wc.heap.size := size_of_get Gy
        go_wp2_with fail
        go_ret
        exact ⟨rfl, HB.out.alloc HB.out.size _⟩
theorem FnFarmSet_own : ownKnob Try.prog.godebug = none := by kernel_rfl
theorem FnFarmSet_laidOut : laidOutB Try.prog = true := by kernel_rfl
set_option maxRecDepth 100000 in
theorem FnFarmSet_lifted (os : Os) (started : os.Started) (H : Type) (enc : TypeId × Value → H) :
    ReturnsInHanded {} Try.checked os 4 .any (Rows.fnFarmSetSpec.pre6 enc Try.prog Try.f4 Rows.fnFarmSetRow.domain false) (Rows.fnFarmSetSpec.post enc Try.prog Try.f4 false true false false) := by
  refine returnsInHanded_of_change (C := Try.checked) FnFarmSet_own started (by kernel_rfl) Try.func4
    (ChangeSpec.witness6 (enc := enc) (C := Try.checked) false ⟨#[], #[.slice none 0 0, .slice none 0 0], []⟩ 8 (by kernel_rfl) (by kernel_rfl) (by kernel_rfl) (by kernel_rfl)) ?_
  intro W base args ds gs before hval0 hW hcnd _
  have hval : ∀ (j : Nat) t v, Try.f4.params[j]? = some t → args[j]? = some v → Value.okWide Try.prog W .any base t v := hval0
  have hW' := hW
  obtain ⟨p, q, hA0, hV, rfl, hfz, hnd⟩ := hW
  have hA : DataW.TrodAll enc Try.prog W 0 (fun _ => true) true Try.f4.params.toList args.toList ds p := hA0
  rw [Try.params4] at hA hval
  obtain ⟨v0, vs0, d0, ds0, p0, q0, hargs, rfl, rfl, h0, r0⟩ := trodAll_cons hA
  obtain ⟨v1, vs1, d1, ds1, p1, q1, rfl, rfl, rfl, h1, r1⟩ := trodAll_cons r0
  obtain ⟨rfl, rfl, rfl⟩ := trodAll_nil r1
  obtain rfl : args = #[v0, v1] := by cases args; simp_all
  obtain ⟨rfl, rfl⟩ := trodVars_none hV
  obtain ⟨a0, len0, cap0, rfl⟩ := okWide_slice Try.underlying22 (hval 0 22 v0 rfl rfl)
  have k0 := h0
  have lt0 : ∀ x ∈ p0, x.block < W.heap.size := by obtain ⟨m, hm⟩ := k0; exact DataW.trod_lt m _ _ _ hm
  obtain ⟨z0, w0⟩ : ∃ zs, IsRow .u8 W a0 len0 cap0 zs := by
    obtain ⟨fuel, hf⟩ := h0
    rcases open_ints Try.underlying22 Try.underlying5 (by kernel_rfl) hf with ⟨hcs, _⟩ | ⟨x, l, c, zs, hcs, _, hl, hm, hz, _, hcell, hwz⟩
    · simp [Value.cells] at hcs
      obtain ⟨rfl, rfl, rfl⟩ := hcs
      exact ⟨[], .inl ⟨rfl, rfl, rfl, rfl⟩⟩
    · simp [Value.cells] at hcs
      obtain ⟨rfl, rfl, rfl⟩ := hcs
      exact ⟨zs, .inr ⟨_, rfl, hl, hm, by simpa using hz, hcell, hwz⟩⟩
  obtain ⟨a1, len1, cap1, rfl⟩ := okWide_slice Try.underlying22 (hval 1 22 v1 rfl rfl)
  have k1 := h1
  have lt1 : ∀ x ∈ p1, x.block < W.heap.size := by obtain ⟨m, hm⟩ := k1; exact DataW.trod_lt m _ _ _ hm
  obtain ⟨z1, w1⟩ : ∃ zs, IsRow .u8 W a1 len1 cap1 zs := by
    obtain ⟨fuel, hf⟩ := h1
    rcases open_ints Try.underlying22 Try.underlying5 (by kernel_rfl) hf with ⟨hcs, _⟩ | ⟨x, l, c, zs, hcs, _, hl, hm, hz, _, hcell, hwz⟩
    · simp [Value.cells] at hcs
      obtain ⟨rfl, rfl, rfl⟩ := hcs
      exact ⟨[], .inl ⟨rfl, rfl, rfl, rfl⟩⟩
    · simp [Value.cells] at hcs
      obtain ⟨rfl, rfl, rfl⟩ := hcs
      exact ⟨zs, .inr ⟨_, rfl, hl, hm, by simpa using hz, hcell, hwz⟩⟩
  clear hA0 hval0
  refine (FnFarmSet_walk a0 len0 cap0 z0 a1 len1 cap1 z1 W w0 w1).mono fun e W' ⟨he, bel⟩ => ?_
  subst he
  exact ⟨_, rfl, _, _, _, [], _, [], hW', trodAll_mk1 (shut_bool Try.underlying4 _), (trodAll_cons_mk (Below.trod FnFarmSet_laidOut (by kernel_rfl) (of_decide_eq_true (by kernel_rfl)) k0 bel lt0) (trodAll_cons_mk (Below.trod FnFarmSet_laidOut (by kernel_rfl) (of_decide_eq_true (by kernel_rfl)) k1 bel lt1) trodAll_mk0)), rfl, bel.frame _, fun h => by cases h⟩
theorem FnFarmSet_holds : Rows.FnFarmSetSaid :=
  OpenClaim.holds_of_wide 4 Try.f4 rfl rfl rfl rfl rfl rfl rfl ⟨rfl, rfl, rfl, rfl, rfl⟩ rfl rfl rfl rfl rfl (by kernel_rfl) Try.func4 (by kernel_rfl)
    (of_decide_eq_true (by kernel_rfl)) (by unfold Func.isWrapper; first | (rw [if_pos (by decide +kernel)]; kernel_rfl) | (rw [if_neg (by decide +kernel)]; exact ⟨rfl, rfl⟩))
    (fun os started H enc _ => FnFarmSet_lifted os started H enc)
#print axioms FnFarmSet_holds
end Go.Proofs.Ytfojljhpobdcdaa
