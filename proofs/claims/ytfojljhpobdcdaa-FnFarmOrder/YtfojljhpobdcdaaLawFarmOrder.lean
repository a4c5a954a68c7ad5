/- Proved: laws.FnFarmOrder returns true at every slice of bytes (only the next frame is taken of those in order, and the next one is one more then), and leaves it as it was. No condition. -/
import Derived.Test.YtfojljhpobdcdaaDrawJ
import Derived.Test.YtfojljhpobdcdaaFaN
import Derived.Test.YtfojljhpobdcdaaKeepN
import Derived.Deep.RegionHeld2
namespace Go.Proofs.Ytfojljhpobdcdaa
open Go.ChangeShapes Go.WideShapes Go.ChangeAt Go.RowKit
set_option linter.unusedVariables false

open Go.ChangeMaps (open_string shut_string)
theorem specFrameOk_is (p g : Bool) (c v q : Int) (d : ByteArray) (w : World) (hd : d.size ≤ maxLen) (b : Bool) (h : frOk p g c v q d = b) :
    Calls Try.prog 12 #[.agg #[.bool p, .bool g, .int .i64 c, .int .i64 v, .int .i64 q, .string d]] w fun e w' => e = .returned (.bool b) ∧ Below w.heap.size w w' := by
  subst h; exact specFrameOk_any p g c v q d w hd
theorem specFarmOk_is (s wt ag : Bool) (c n : Int) (w : World) (b : Bool) (h : faOk wt ag c n = b) :
    Calls Try.prog 11 #[.agg #[.bool s, .bool wt, .bool ag, .int .i64 c, .int .i64 n]] w fun e w' => e = .returned (.bool b) ∧ Below w.heap.size w w' := by
  subst h; exact specFarmOk_any s wt ag c n w
set_option maxRecDepth 100000 in
set_option maxHeartbeats 8000000 in
theorem FnFarmOrder_walk (a : Option Addr) (len cap : Nat) (zs : List Int) (w : World) (h : IsRow .u8 w a len cap zs) :
    Calls Try.prog 6 #[.slice a len cap] w fun e w' => e = .returned (.bool true) ∧ Below w.heap.size w w' := by
  have H : Hid _ := h
  clear h
  by_cases hbig : 1048576 < (len : Int)
  · go_enter Try.func6, Try.ntmps6
    go_wp2_with fail
    go_ret
    exact ⟨rfl, Below.refl _ _⟩
  go_enter Try.func6, Try.ntmps6
  go_wp2_with fail
  refine (DrawFarmHear_any a len cap zs _ H.out).mono ?_
  rintro e w1 ⟨fs, fw, fa, fc, fn, xp, xg, xc, xv, xq, xd, room, hn0, hn1, hc0, hc1, hv0, hv1, hq0, hq1, hd, rfl, hb1⟩
  have HB1 : Hid (Below w.heap.size w w1) := hb1
  clear hb1
  go_wp2_with fail
  have hdm : xd.size ≤ maxLen := by unfold maxLen; omega
  have hOk : ∀ (s wt ag : Bool) (c n : Int) (W : World), faOk wt ag c n = true → Calls Try.prog 16 #[.agg #[.bool s, .bool wt, .bool ag, .int .i64 c, .int .i64 n]] W fun e w' => e = .returned (.bool true) ∧ Below W.heap.size W w' := by
    intro s wt ag c n W h
    have := implFarmOk_any s wt ag c n W
    rw [h] at this
    exact this
  have HOK : Hid _ := hOk
  clear hOk
  cases hf : faOk fw fa fc fn
  · have HF : Hid _ := hf
    clear hf
    obtain ⟨⟨ys, yw, ya, yc, yn, yk⟩, hy⟩ : ∃ y, y = fh fs fw fa fc fn xp xg xc xv xq xd room := ⟨_, rfl⟩
    have HI : Hid (∀ W, Calls Try.prog 9 #[.agg #[.bool fs, .bool fw, .bool fa, .int .i64 fc, .int .i64 fn], .agg #[.bool xp, .bool xg, .int .i64 xc, .int .i64 xv, .int .i64 xq, .string xd], .bool room] W fun e w' => e = .returned (.tuple #[.agg #[.bool ys, .bool yw, .bool ya, .int .i64 yc, .int .i64 yn], .int .i64 yk]) ∧ Below W.heap.size W w') := by
      intro W
      have h := implFarmHear_any fs fw fa fc fn xp xg xc xv xq xd room W hdm
      rw [← hy] at h
      exact h
    have HS : Hid (∀ W, Calls Try.prog 10 #[.agg #[.bool fs, .bool fw, .bool fa, .int .i64 fc, .int .i64 fn], .agg #[.bool xp, .bool xg, .int .i64 xc, .int .i64 xv, .int .i64 xq, .string xd], .bool room] W fun e w' => e = .returned (.tuple #[.agg #[.bool ys, .bool yw, .bool ya, .int .i64 yc, .int .i64 yn], .int .i64 yk]) ∧ Below W.heap.size W w') := by
      intro W
      have h := specFarmHear_any fs fw fa fc fn xp xg xc xv xq xd room W hdm
      rw [← hy] at h
      exact h
    clear hy
    refine (HI.out _).mono ?_
    rintro e w2 ⟨rfl, hb2⟩
    have hGf : w2.heap[w1.heap.size]? = some (.cells #[.bool fs, .bool fw, .bool fa, .int .i64 fc, .int .i64 fn] 24) := get_below hb2 (get_alloc (get_new rfl) (by simp)) (by simp; omega)
    have hGx : w2.heap[w1.heap.size + 1]? = some (.cells #[.bool xp, .bool xg, .int .i64 xc, .int .i64 xv, .int .i64 xq, .string xd] 26) := get_below hb2 (get_new (by simp)) (by simp)
    have HB2 : Hid (Below w.heap.size w w2) := ((HB1.out.alloc HB1.out.size _).alloc (by have := HB1.out.size; simp; omega) _).trans (hb2.mono (by have := HB1.out.size; simp; omega))
    clear hb2
    have hq1 : w1.heap.size + 1 < w2.heap.size := size_of_get hGx
    have hq0 : w1.heap.size < w2.heap.size := by omega
    obtain ⟨k0, k1, k2, k3, k4⟩ := cells5_of hGf
    obtain ⟨j0, j1, j2, j3, j4, j5⟩ := cells6_of hGx
    go_wp2_with fail
    refine (HS.out _).mono ?_
    rintro e w3 ⟨rfl, hb3⟩
    clear k0 k1 k2 k3 k4 j0 j1 j2 j3 j4 j5
    have hGf3 : w3.heap[w1.heap.size]? = some (.cells #[.bool fs, .bool fw, .bool fa, .int .i64 fc, .int .i64 fn] 24) := get_below hb3 (get_allocS hGf) (by simp; omega)
    have hGx3 : w3.heap[w1.heap.size + 1]? = some (.cells #[.bool xp, .bool xg, .int .i64 xc, .int .i64 xv, .int .i64 xq, .string xd] 26) := get_below hb3 (get_allocS hGx) (by simp; omega)
    have hGy3 : w3.heap[w2.heap.size]? = some (.cells #[.bool ys, .bool yw, .bool ya, .int .i64 yc, .int .i64 yn] 24) := get_below hb3 (get_new rfl) (by simp)
    have HB3 : Hid (Below w.heap.size w (w3.alloc (.cells #[.bool ys, .bool yw, .bool ya, .int .i64 yc, .int .i64 yn] 24))) := ((HB2.out.alloc HB2.out.size _).trans (hb3.mono (by have := HB2.out.size; simp; omega))).alloc (by have := HB2.out.size; have := hb3.size; simp at this; omega) _
    have gf : (w3.alloc (.cells #[.bool ys, .bool yw, .bool ya, .int .i64 yc, .int .i64 yn] 24)).heap[w1.heap.size]? = some (.cells #[.bool fs, .bool fw, .bool fa, .int .i64 fc, .int .i64 fn] 24) := get_allocS hGf3
    have gx : (w3.alloc (.cells #[.bool ys, .bool yw, .bool ya, .int .i64 yc, .int .i64 yn] 24)).heap[w1.heap.size + 1]? = some (.cells #[.bool xp, .bool xg, .int .i64 xc, .int .i64 xv, .int .i64 xq, .string xd] 26) := get_allocS hGx3
    have gy : (w3.alloc (.cells #[.bool ys, .bool yw, .bool ya, .int .i64 yc, .int .i64 yn] 24)).heap[w2.heap.size]? = some (.cells #[.bool ys, .bool yw, .bool ya, .int .i64 yc, .int .i64 yn] 24) := get_allocS hGy3
    have gz : (w3.alloc (.cells #[.bool ys, .bool yw, .bool ya, .int .i64 yc, .int .i64 yn] 24)).heap[w3.heap.size]? = some (.cells #[.bool ys, .bool yw, .bool ya, .int .i64 yc, .int .i64 yn] 24) := get_new rfl
    clear hGf hGx hb3
    obtain ⟨k0, k1, k2, k3, k4⟩ := cells5_of hGf3
    obtain ⟨j0, j1, j2, j3, j4, j5⟩ := cells6_of hGx3
    obtain ⟨y0, y1, y2, y3, y4⟩ := cells5_of hGy3
    have hq2 : w2.heap.size < w3.heap.size := size_of_get hGy3
    have hq3 : w1.heap.size < w3.heap.size := by omega
    have hq4 : w1.heap.size + 1 < w3.heap.size := by omega
    clear hGf3 hGx3 hGy3
    go_wp2_with fail
    clear k0 k1 k2 k3 k4 j0 j1 j2 j3 j4 j5 y0 y1 y2 y3 y4
    generalize (w3.alloc (.cells #[.bool ys, .bool yw, .bool ya, .int .i64 yc, .int .i64 yn] 24)) = wr at *
    obtain ⟨k0, k1, k2, k3, k4⟩ := cells5_of gf
    obtain ⟨j0, j1, j2, j3, j4, j5⟩ := cells6_of gx
    obtain ⟨y0, y1, y2, y3, y4⟩ := cells5_of gy
    obtain ⟨z0, z1, z2, z3, z4⟩ := cells5_of gz
    have hB : Below wr.heap.size wr wr := Below.refl _ _
    clear gf gx gy gz
    refine (specFarmOk_is _ _ _ _ _ _ false HF.out).mono ?_
    rintro e wa ⟨rfl, hbb⟩
    have HK := keepC21 ⟨hB, k0, k1, k2, k3, k4, j0, j1, j2, j3, j4, j5, y0, y1, y2, y3, y4, z0, z1, z2, z3, z4⟩ hbb
    clear hbb hB k0 k1 k2 k3 k4 j0 j1 j2 j3 j4 j5 y0 y1 y2 y3 y4 z0 z1 z2 z3 z4
    obtain ⟨hB, k0, k1, k2, k3, k4, j0, j1, j2, j3, j4, j5, y0, y1, y2, y3, y4, z0, z1, z2, z3, z4⟩ := HK
    have hs0 : w1.heap.size < wa.heap.size := block_lt_of_cell k0
    have hs1 : w1.heap.size + 1 < wa.heap.size := block_lt_of_cell j0
    have hs2 : w2.heap.size < wa.heap.size := block_lt_of_cell y0
    have hs3 : w3.heap.size < wa.heap.size := block_lt_of_cell z0
    go_wp2_with fail
    go_ret
    exact ⟨rfl, HB3.out.trans (hB.mono HB3.out.size)⟩
  · have HF : Hid _ := hf
    clear hf
    cases hx : frOk xp xg xc xv xq xd
    · have HX : Hid _ := hx
      clear hx
      obtain ⟨⟨ys, yw, ya, yc, yn, yk⟩, hy⟩ : ∃ y, y = fh fs fw fa fc fn xp xg xc xv xq xd room := ⟨_, rfl⟩
      have HI : Hid (∀ W, Calls Try.prog 9 #[.agg #[.bool fs, .bool fw, .bool fa, .int .i64 fc, .int .i64 fn], .agg #[.bool xp, .bool xg, .int .i64 xc, .int .i64 xv, .int .i64 xq, .string xd], .bool room] W fun e w' => e = .returned (.tuple #[.agg #[.bool ys, .bool yw, .bool ya, .int .i64 yc, .int .i64 yn], .int .i64 yk]) ∧ Below W.heap.size W w') := by
        intro W
        have h := implFarmHear_any fs fw fa fc fn xp xg xc xv xq xd room W hdm
        rw [← hy] at h
        exact h
      have HS : Hid (∀ W, Calls Try.prog 10 #[.agg #[.bool fs, .bool fw, .bool fa, .int .i64 fc, .int .i64 fn], .agg #[.bool xp, .bool xg, .int .i64 xc, .int .i64 xv, .int .i64 xq, .string xd], .bool room] W fun e w' => e = .returned (.tuple #[.agg #[.bool ys, .bool yw, .bool ya, .int .i64 yc, .int .i64 yn], .int .i64 yk]) ∧ Below W.heap.size W w') := by
        intro W
        have h := specFarmHear_any fs fw fa fc fn xp xg xc xv xq xd room W hdm
        rw [← hy] at h
        exact h
      clear hy
      refine (HI.out _).mono ?_
      rintro e w2 ⟨rfl, hb2⟩
      have hGf : w2.heap[w1.heap.size]? = some (.cells #[.bool fs, .bool fw, .bool fa, .int .i64 fc, .int .i64 fn] 24) := get_below hb2 (get_alloc (get_new rfl) (by simp)) (by simp; omega)
      have hGx : w2.heap[w1.heap.size + 1]? = some (.cells #[.bool xp, .bool xg, .int .i64 xc, .int .i64 xv, .int .i64 xq, .string xd] 26) := get_below hb2 (get_new (by simp)) (by simp)
      have HB2 : Hid (Below w.heap.size w w2) := ((HB1.out.alloc HB1.out.size _).alloc (by have := HB1.out.size; simp; omega) _).trans (hb2.mono (by have := HB1.out.size; simp; omega))
      clear hb2
      have hq1 : w1.heap.size + 1 < w2.heap.size := size_of_get hGx
      have hq0 : w1.heap.size < w2.heap.size := by omega
      obtain ⟨k0, k1, k2, k3, k4⟩ := cells5_of hGf
      obtain ⟨j0, j1, j2, j3, j4, j5⟩ := cells6_of hGx
      go_wp2_with fail
      refine (HS.out _).mono ?_
      rintro e w3 ⟨rfl, hb3⟩
      clear k0 k1 k2 k3 k4 j0 j1 j2 j3 j4 j5
      have hGf3 : w3.heap[w1.heap.size]? = some (.cells #[.bool fs, .bool fw, .bool fa, .int .i64 fc, .int .i64 fn] 24) := get_below hb3 (get_allocS hGf) (by simp; omega)
      have hGx3 : w3.heap[w1.heap.size + 1]? = some (.cells #[.bool xp, .bool xg, .int .i64 xc, .int .i64 xv, .int .i64 xq, .string xd] 26) := get_below hb3 (get_allocS hGx) (by simp; omega)
      have hGy3 : w3.heap[w2.heap.size]? = some (.cells #[.bool ys, .bool yw, .bool ya, .int .i64 yc, .int .i64 yn] 24) := get_below hb3 (get_new rfl) (by simp)
      have HB3 : Hid (Below w.heap.size w (w3.alloc (.cells #[.bool ys, .bool yw, .bool ya, .int .i64 yc, .int .i64 yn] 24))) := ((HB2.out.alloc HB2.out.size _).trans (hb3.mono (by have := HB2.out.size; simp; omega))).alloc (by have := HB2.out.size; have := hb3.size; simp at this; omega) _
      have gf : (w3.alloc (.cells #[.bool ys, .bool yw, .bool ya, .int .i64 yc, .int .i64 yn] 24)).heap[w1.heap.size]? = some (.cells #[.bool fs, .bool fw, .bool fa, .int .i64 fc, .int .i64 fn] 24) := get_allocS hGf3
      have gx : (w3.alloc (.cells #[.bool ys, .bool yw, .bool ya, .int .i64 yc, .int .i64 yn] 24)).heap[w1.heap.size + 1]? = some (.cells #[.bool xp, .bool xg, .int .i64 xc, .int .i64 xv, .int .i64 xq, .string xd] 26) := get_allocS hGx3
      have gy : (w3.alloc (.cells #[.bool ys, .bool yw, .bool ya, .int .i64 yc, .int .i64 yn] 24)).heap[w2.heap.size]? = some (.cells #[.bool ys, .bool yw, .bool ya, .int .i64 yc, .int .i64 yn] 24) := get_allocS hGy3
      have gz : (w3.alloc (.cells #[.bool ys, .bool yw, .bool ya, .int .i64 yc, .int .i64 yn] 24)).heap[w3.heap.size]? = some (.cells #[.bool ys, .bool yw, .bool ya, .int .i64 yc, .int .i64 yn] 24) := get_new rfl
      clear hGf hGx hb3
      obtain ⟨k0, k1, k2, k3, k4⟩ := cells5_of hGf3
      obtain ⟨j0, j1, j2, j3, j4, j5⟩ := cells6_of hGx3
      obtain ⟨y0, y1, y2, y3, y4⟩ := cells5_of hGy3
      have hq2 : w2.heap.size < w3.heap.size := size_of_get hGy3
      have hq3 : w1.heap.size < w3.heap.size := by omega
      have hq4 : w1.heap.size + 1 < w3.heap.size := by omega
      clear hGf3 hGx3 hGy3
      go_wp2_with fail
      clear k0 k1 k2 k3 k4 j0 j1 j2 j3 j4 j5 y0 y1 y2 y3 y4
      generalize (w3.alloc (.cells #[.bool ys, .bool yw, .bool ya, .int .i64 yc, .int .i64 yn] 24)) = wr at *
      obtain ⟨k0, k1, k2, k3, k4⟩ := cells5_of gf
      obtain ⟨j0, j1, j2, j3, j4, j5⟩ := cells6_of gx
      obtain ⟨y0, y1, y2, y3, y4⟩ := cells5_of gy
      obtain ⟨z0, z1, z2, z3, z4⟩ := cells5_of gz
      have hB : Below wr.heap.size wr wr := Below.refl _ _
      clear gf gx gy gz
      refine (specFarmOk_is _ _ _ _ _ _ true HF.out).mono ?_
      rintro e wa ⟨rfl, hbb⟩
      have HK := keepC21 ⟨hB, k0, k1, k2, k3, k4, j0, j1, j2, j3, j4, j5, y0, y1, y2, y3, y4, z0, z1, z2, z3, z4⟩ hbb
      clear hbb hB k0 k1 k2 k3 k4 j0 j1 j2 j3 j4 j5 y0 y1 y2 y3 y4 z0 z1 z2 z3 z4
      obtain ⟨hB, k0, k1, k2, k3, k4, j0, j1, j2, j3, j4, j5, y0, y1, y2, y3, y4, z0, z1, z2, z3, z4⟩ := HK
      have hs0 : w1.heap.size < wa.heap.size := block_lt_of_cell k0
      have hs1 : w1.heap.size + 1 < wa.heap.size := block_lt_of_cell j0
      have hs2 : w2.heap.size < wa.heap.size := block_lt_of_cell y0
      have hs3 : w3.heap.size < wa.heap.size := block_lt_of_cell z0
      go_wp2_with fail
      refine (specFrameOk_is _ _ _ _ _ _ _ hdm false HX.out).mono ?_
      rintro e wb ⟨rfl, hbb⟩
      have HK := keepC21 ⟨hB, k0, k1, k2, k3, k4, j0, j1, j2, j3, j4, j5, y0, y1, y2, y3, y4, z0, z1, z2, z3, z4⟩ hbb
      clear hbb hB k0 k1 k2 k3 k4 j0 j1 j2 j3 j4 j5 y0 y1 y2 y3 y4 z0 z1 z2 z3 z4
      obtain ⟨hB, k0, k1, k2, k3, k4, j0, j1, j2, j3, j4, j5, y0, y1, y2, y3, y4, z0, z1, z2, z3, z4⟩ := HK
      have hs0 : w1.heap.size < wb.heap.size := block_lt_of_cell k0
      have hs1 : w1.heap.size + 1 < wb.heap.size := block_lt_of_cell j0
      have hs2 : w2.heap.size < wb.heap.size := block_lt_of_cell y0
      have hs3 : w3.heap.size < wb.heap.size := block_lt_of_cell z0
      go_wp2_with fail
      go_ret
      exact ⟨rfl, HB3.out.trans (hB.mono HB3.out.size)⟩
    · have HX : Hid _ := hx
      clear hx
      obtain ⟨c0, c3, n0, n1, _⟩ := faOk_bounds' HF.out
      obtain ⟨r0, r1, r2, r3, q0, q1⟩ := fr_num HX.out
      cases xp
      rotate_left
      · obtain ⟨⟨ys, yw, ya, yc, yn, yk⟩, hy⟩ : ∃ y, y = fh fs fw fa fc fn true xg xc xv xq xd room := ⟨_, rfl⟩
        have HI : Hid (∀ W, Calls Try.prog 9 #[.agg #[.bool fs, .bool fw, .bool fa, .int .i64 fc, .int .i64 fn], .agg #[.bool true, .bool xg, .int .i64 xc, .int .i64 xv, .int .i64 xq, .string xd], .bool room] W fun e w' => e = .returned (.tuple #[.agg #[.bool ys, .bool yw, .bool ya, .int .i64 yc, .int .i64 yn], .int .i64 yk]) ∧ Below W.heap.size W w') := by
          intro W
          have h := implFarmHear_any fs fw fa fc fn true xg xc xv xq xd room W hdm
          rw [← hy] at h
          exact h
        have HS : Hid (∀ W, Calls Try.prog 10 #[.agg #[.bool fs, .bool fw, .bool fa, .int .i64 fc, .int .i64 fn], .agg #[.bool true, .bool xg, .int .i64 xc, .int .i64 xv, .int .i64 xq, .string xd], .bool room] W fun e w' => e = .returned (.tuple #[.agg #[.bool ys, .bool yw, .bool ya, .int .i64 yc, .int .i64 yn], .int .i64 yk]) ∧ Below W.heap.size W w') := by
          intro W
          have h := specFarmHear_any fs fw fa fc fn true xg xc xv xq xd room W hdm
          rw [← hy] at h
          exact h
        clear hy
        refine (HI.out _).mono ?_
        rintro e w2 ⟨rfl, hb2⟩
        have hGf : w2.heap[w1.heap.size]? = some (.cells #[.bool fs, .bool fw, .bool fa, .int .i64 fc, .int .i64 fn] 24) := get_below hb2 (get_alloc (get_new rfl) (by simp)) (by simp; omega)
        have hGx : w2.heap[w1.heap.size + 1]? = some (.cells #[.bool true, .bool xg, .int .i64 xc, .int .i64 xv, .int .i64 xq, .string xd] 26) := get_below hb2 (get_new (by simp)) (by simp)
        have HB2 : Hid (Below w.heap.size w w2) := ((HB1.out.alloc HB1.out.size _).alloc (by have := HB1.out.size; simp; omega) _).trans (hb2.mono (by have := HB1.out.size; simp; omega))
        clear hb2
        have hq1 : w1.heap.size + 1 < w2.heap.size := size_of_get hGx
        have hq0 : w1.heap.size < w2.heap.size := by omega
        obtain ⟨k0, k1, k2, k3, k4⟩ := cells5_of hGf
        obtain ⟨j0, j1, j2, j3, j4, j5⟩ := cells6_of hGx
        go_wp2_with fail
        refine (HS.out _).mono ?_
        rintro e w3 ⟨rfl, hb3⟩
        clear k0 k1 k2 k3 k4 j0 j1 j2 j3 j4 j5
        have hGf3 : w3.heap[w1.heap.size]? = some (.cells #[.bool fs, .bool fw, .bool fa, .int .i64 fc, .int .i64 fn] 24) := get_below hb3 (get_allocS hGf) (by simp; omega)
        have hGx3 : w3.heap[w1.heap.size + 1]? = some (.cells #[.bool true, .bool xg, .int .i64 xc, .int .i64 xv, .int .i64 xq, .string xd] 26) := get_below hb3 (get_allocS hGx) (by simp; omega)
        have hGy3 : w3.heap[w2.heap.size]? = some (.cells #[.bool ys, .bool yw, .bool ya, .int .i64 yc, .int .i64 yn] 24) := get_below hb3 (get_new rfl) (by simp)
        have HB3 : Hid (Below w.heap.size w (w3.alloc (.cells #[.bool ys, .bool yw, .bool ya, .int .i64 yc, .int .i64 yn] 24))) := ((HB2.out.alloc HB2.out.size _).trans (hb3.mono (by have := HB2.out.size; simp; omega))).alloc (by have := HB2.out.size; have := hb3.size; simp at this; omega) _
        have gf : (w3.alloc (.cells #[.bool ys, .bool yw, .bool ya, .int .i64 yc, .int .i64 yn] 24)).heap[w1.heap.size]? = some (.cells #[.bool fs, .bool fw, .bool fa, .int .i64 fc, .int .i64 fn] 24) := get_allocS hGf3
        have gx : (w3.alloc (.cells #[.bool ys, .bool yw, .bool ya, .int .i64 yc, .int .i64 yn] 24)).heap[w1.heap.size + 1]? = some (.cells #[.bool true, .bool xg, .int .i64 xc, .int .i64 xv, .int .i64 xq, .string xd] 26) := get_allocS hGx3
        have gy : (w3.alloc (.cells #[.bool ys, .bool yw, .bool ya, .int .i64 yc, .int .i64 yn] 24)).heap[w2.heap.size]? = some (.cells #[.bool ys, .bool yw, .bool ya, .int .i64 yc, .int .i64 yn] 24) := get_allocS hGy3
        have gz : (w3.alloc (.cells #[.bool ys, .bool yw, .bool ya, .int .i64 yc, .int .i64 yn] 24)).heap[w3.heap.size]? = some (.cells #[.bool ys, .bool yw, .bool ya, .int .i64 yc, .int .i64 yn] 24) := get_new rfl
        clear hGf hGx hb3
        obtain ⟨k0, k1, k2, k3, k4⟩ := cells5_of hGf3
        obtain ⟨j0, j1, j2, j3, j4, j5⟩ := cells6_of hGx3
        obtain ⟨y0, y1, y2, y3, y4⟩ := cells5_of hGy3
        have hq2 : w2.heap.size < w3.heap.size := size_of_get hGy3
        have hq3 : w1.heap.size < w3.heap.size := by omega
        have hq4 : w1.heap.size + 1 < w3.heap.size := by omega
        clear hGf3 hGx3 hGy3
        go_wp2_with fail
        clear k0 k1 k2 k3 k4 j0 j1 j2 j3 j4 j5 y0 y1 y2 y3 y4
        generalize (w3.alloc (.cells #[.bool ys, .bool yw, .bool ya, .int .i64 yc, .int .i64 yn] 24)) = wr at *
        obtain ⟨k0, k1, k2, k3, k4⟩ := cells5_of gf
        obtain ⟨j0, j1, j2, j3, j4, j5⟩ := cells6_of gx
        obtain ⟨y0, y1, y2, y3, y4⟩ := cells5_of gy
        obtain ⟨z0, z1, z2, z3, z4⟩ := cells5_of gz
        have hB : Below wr.heap.size wr wr := Below.refl _ _
        clear gf gx gy gz
        refine (specFarmOk_is _ _ _ _ _ _ true HF.out).mono ?_
        rintro e wa ⟨rfl, hbb⟩
        have HK := keepC21 ⟨hB, k0, k1, k2, k3, k4, j0, j1, j2, j3, j4, j5, y0, y1, y2, y3, y4, z0, z1, z2, z3, z4⟩ hbb
        clear hbb hB k0 k1 k2 k3 k4 j0 j1 j2 j3 j4 j5 y0 y1 y2 y3 y4 z0 z1 z2 z3 z4
        obtain ⟨hB, k0, k1, k2, k3, k4, j0, j1, j2, j3, j4, j5, y0, y1, y2, y3, y4, z0, z1, z2, z3, z4⟩ := HK
        have hs0 : w1.heap.size < wa.heap.size := block_lt_of_cell k0
        have hs1 : w1.heap.size + 1 < wa.heap.size := block_lt_of_cell j0
        have hs2 : w2.heap.size < wa.heap.size := block_lt_of_cell y0
        have hs3 : w3.heap.size < wa.heap.size := block_lt_of_cell z0
        go_wp2_with fail
        refine (specFrameOk_is _ _ _ _ _ _ _ hdm true HX.out).mono ?_
        rintro e wb ⟨rfl, hbb⟩
        have HK := keepC21 ⟨hB, k0, k1, k2, k3, k4, j0, j1, j2, j3, j4, j5, y0, y1, y2, y3, y4, z0, z1, z2, z3, z4⟩ hbb
        clear hbb hB k0 k1 k2 k3 k4 j0 j1 j2 j3 j4 j5 y0 y1 y2 y3 y4 z0 z1 z2 z3 z4
        obtain ⟨hB, k0, k1, k2, k3, k4, j0, j1, j2, j3, j4, j5, y0, y1, y2, y3, y4, z0, z1, z2, z3, z4⟩ := HK
        have hs0 : w1.heap.size < wb.heap.size := block_lt_of_cell k0
        have hs1 : w1.heap.size + 1 < wb.heap.size := block_lt_of_cell j0
        have hs2 : w2.heap.size < wb.heap.size := block_lt_of_cell y0
        have hs3 : w3.heap.size < wb.heap.size := block_lt_of_cell z0
        go_wp2_with fail
        go_ret
        exact ⟨rfl, HB3.out.trans (hB.mono HB3.out.size)⟩
      · have hg := fr_gov HX.out
        subst hg
        cases fs
        rotate_left
        · by_cases hqn : xq = fn
          · subst hqn
            have HI : Hid (∀ W, Calls Try.prog 9 #[.agg #[.bool true, .bool fw, .bool fa, .int .i64 fc, .int .i64 xq], .agg #[.bool false, .bool false, .int .i64 xc, .int .i64 xv, .int .i64 xq, .string xd], .bool room] W fun e w' => e = .returned (.tuple #[.agg #[.bool true, .bool fw, .bool fa, .int .i64 fc, .int .i64 xq], .int .i64 5]) ∧ Below W.heap.size W w') := by
              intro W
              have h := implFarmHear_any true fw fa fc xq false false xc xv xq xd room W hdm
              rw [fh_shut HF.out HX.out] at h
              exact h
            have HS : Hid (∀ W, Calls Try.prog 10 #[.agg #[.bool true, .bool fw, .bool fa, .int .i64 fc, .int .i64 xq], .agg #[.bool false, .bool false, .int .i64 xc, .int .i64 xv, .int .i64 xq, .string xd], .bool room] W fun e w' => e = .returned (.tuple #[.agg #[.bool true, .bool fw, .bool fa, .int .i64 fc, .int .i64 xq], .int .i64 5]) ∧ Below W.heap.size W w') := by
              intro W
              have h := specFarmHear_any true fw fa fc xq false false xc xv xq xd room W hdm
              rw [fh_shut HF.out HX.out] at h
              exact h
            refine (HI.out _).mono ?_
            rintro e w2 ⟨rfl, hb2⟩
            have hGf : w2.heap[w1.heap.size]? = some (.cells #[.bool true, .bool fw, .bool fa, .int .i64 fc, .int .i64 xq] 24) := get_below hb2 (get_alloc (get_new rfl) (by simp)) (by simp; omega)
            have hGx : w2.heap[w1.heap.size + 1]? = some (.cells #[.bool false, .bool false, .int .i64 xc, .int .i64 xv, .int .i64 xq, .string xd] 26) := get_below hb2 (get_new (by simp)) (by simp)
            have HB2 : Hid (Below w.heap.size w w2) := ((HB1.out.alloc HB1.out.size _).alloc (by have := HB1.out.size; simp; omega) _).trans (hb2.mono (by have := HB1.out.size; simp; omega))
            clear hb2
            have hq1 : w1.heap.size + 1 < w2.heap.size := size_of_get hGx
            have hq0 : w1.heap.size < w2.heap.size := by omega
            obtain ⟨k0, k1, k2, k3, k4⟩ := cells5_of hGf
            obtain ⟨j0, j1, j2, j3, j4, j5⟩ := cells6_of hGx
            go_wp2_with fail
            refine (HS.out _).mono ?_
            rintro e w3 ⟨rfl, hb3⟩
            clear k0 k1 k2 k3 k4 j0 j1 j2 j3 j4 j5
            have hGf3 : w3.heap[w1.heap.size]? = some (.cells #[.bool true, .bool fw, .bool fa, .int .i64 fc, .int .i64 xq] 24) := get_below hb3 (get_allocS hGf) (by simp; omega)
            have hGx3 : w3.heap[w1.heap.size + 1]? = some (.cells #[.bool false, .bool false, .int .i64 xc, .int .i64 xv, .int .i64 xq, .string xd] 26) := get_below hb3 (get_allocS hGx) (by simp; omega)
            have hGy3 : w3.heap[w2.heap.size]? = some (.cells #[.bool true, .bool fw, .bool fa, .int .i64 fc, .int .i64 xq] 24) := get_below hb3 (get_new rfl) (by simp)
            have HB3 : Hid (Below w.heap.size w (w3.alloc (.cells #[.bool true, .bool fw, .bool fa, .int .i64 fc, .int .i64 xq] 24))) := ((HB2.out.alloc HB2.out.size _).trans (hb3.mono (by have := HB2.out.size; simp; omega))).alloc (by have := HB2.out.size; have := hb3.size; simp at this; omega) _
            have gf : (w3.alloc (.cells #[.bool true, .bool fw, .bool fa, .int .i64 fc, .int .i64 xq] 24)).heap[w1.heap.size]? = some (.cells #[.bool true, .bool fw, .bool fa, .int .i64 fc, .int .i64 xq] 24) := get_allocS hGf3
            have gx : (w3.alloc (.cells #[.bool true, .bool fw, .bool fa, .int .i64 fc, .int .i64 xq] 24)).heap[w1.heap.size + 1]? = some (.cells #[.bool false, .bool false, .int .i64 xc, .int .i64 xv, .int .i64 xq, .string xd] 26) := get_allocS hGx3
            have gy : (w3.alloc (.cells #[.bool true, .bool fw, .bool fa, .int .i64 fc, .int .i64 xq] 24)).heap[w2.heap.size]? = some (.cells #[.bool true, .bool fw, .bool fa, .int .i64 fc, .int .i64 xq] 24) := get_allocS hGy3
            have gz : (w3.alloc (.cells #[.bool true, .bool fw, .bool fa, .int .i64 fc, .int .i64 xq] 24)).heap[w3.heap.size]? = some (.cells #[.bool true, .bool fw, .bool fa, .int .i64 fc, .int .i64 xq] 24) := get_new rfl
            clear hGf hGx hb3
            obtain ⟨k0, k1, k2, k3, k4⟩ := cells5_of hGf3
            obtain ⟨j0, j1, j2, j3, j4, j5⟩ := cells6_of hGx3
            obtain ⟨y0, y1, y2, y3, y4⟩ := cells5_of hGy3
            have hq2 : w2.heap.size < w3.heap.size := size_of_get hGy3
            have hq3 : w1.heap.size < w3.heap.size := by omega
            have hq4 : w1.heap.size + 1 < w3.heap.size := by omega
            clear hGf3 hGx3 hGy3
            go_wp2_with fail
            clear k0 k1 k2 k3 k4 j0 j1 j2 j3 j4 j5 y0 y1 y2 y3 y4
            generalize (w3.alloc (.cells #[.bool true, .bool fw, .bool fa, .int .i64 fc, .int .i64 xq] 24)) = wr at *
            obtain ⟨k0, k1, k2, k3, k4⟩ := cells5_of gf
            obtain ⟨j0, j1, j2, j3, j4, j5⟩ := cells6_of gx
            obtain ⟨y0, y1, y2, y3, y4⟩ := cells5_of gy
            obtain ⟨z0, z1, z2, z3, z4⟩ := cells5_of gz
            have hB : Below wr.heap.size wr wr := Below.refl _ _
            clear gf gx gy gz
            refine (specFarmOk_is _ _ _ _ _ _ true HF.out).mono ?_
            rintro e wa ⟨rfl, hbb⟩
            have HK := keepC21 ⟨hB, k0, k1, k2, k3, k4, j0, j1, j2, j3, j4, j5, y0, y1, y2, y3, y4, z0, z1, z2, z3, z4⟩ hbb
            clear hbb hB k0 k1 k2 k3 k4 j0 j1 j2 j3 j4 j5 y0 y1 y2 y3 y4 z0 z1 z2 z3 z4
            obtain ⟨hB, k0, k1, k2, k3, k4, j0, j1, j2, j3, j4, j5, y0, y1, y2, y3, y4, z0, z1, z2, z3, z4⟩ := HK
            have hs0 : w1.heap.size < wa.heap.size := block_lt_of_cell k0
            have hs1 : w1.heap.size + 1 < wa.heap.size := block_lt_of_cell j0
            have hs2 : w2.heap.size < wa.heap.size := block_lt_of_cell y0
            have hs3 : w3.heap.size < wa.heap.size := block_lt_of_cell z0
            go_wp2_with fail
            refine (specFrameOk_is _ _ _ _ _ _ _ hdm true HX.out).mono ?_
            rintro e wb ⟨rfl, hbb⟩
            have HK := keepC21 ⟨hB, k0, k1, k2, k3, k4, j0, j1, j2, j3, j4, j5, y0, y1, y2, y3, y4, z0, z1, z2, z3, z4⟩ hbb
            clear hbb hB k0 k1 k2 k3 k4 j0 j1 j2 j3 j4 j5 y0 y1 y2 y3 y4 z0 z1 z2 z3 z4
            obtain ⟨hB, k0, k1, k2, k3, k4, j0, j1, j2, j3, j4, j5, y0, y1, y2, y3, y4, z0, z1, z2, z3, z4⟩ := HK
            have hs0 : w1.heap.size < wb.heap.size := block_lt_of_cell k0
            have hs1 : w1.heap.size + 1 < wb.heap.size := block_lt_of_cell j0
            have hs2 : w2.heap.size < wb.heap.size := block_lt_of_cell y0
            have hs3 : w3.heap.size < wb.heap.size := block_lt_of_cell z0
            go_wp2_with fail
            refine (HOK.out _ _ _ _ _ _ HF.out).mono ?_
            rintro e wc ⟨rfl, hbb⟩
            have HK := keepC21 ⟨hB, k0, k1, k2, k3, k4, j0, j1, j2, j3, j4, j5, y0, y1, y2, y3, y4, z0, z1, z2, z3, z4⟩ hbb
            clear hbb hB k0 k1 k2 k3 k4 j0 j1 j2 j3 j4 j5 y0 y1 y2 y3 y4 z0 z1 z2 z3 z4
            obtain ⟨hB, k0, k1, k2, k3, k4, j0, j1, j2, j3, j4, j5, y0, y1, y2, y3, y4, z0, z1, z2, z3, z4⟩ := HK
            have hs0 : w1.heap.size < wc.heap.size := block_lt_of_cell k0
            have hs1 : w1.heap.size + 1 < wc.heap.size := block_lt_of_cell j0
            have hs2 : w2.heap.size < wc.heap.size := block_lt_of_cell y0
            have hs3 : w3.heap.size < wc.heap.size := block_lt_of_cell z0
            go_wp2_with fail
            go_ret
            exact ⟨rfl, HB3.out.trans (hB.mono HB3.out.size)⟩
          · have HI : Hid (∀ W, Calls Try.prog 9 #[.agg #[.bool true, .bool fw, .bool fa, .int .i64 fc, .int .i64 fn], .agg #[.bool false, .bool false, .int .i64 xc, .int .i64 xv, .int .i64 xq, .string xd], .bool room] W fun e w' => e = .returned (.tuple #[.agg #[.bool true, .bool fw, .bool fa, .int .i64 fc, .int .i64 fn], .int .i64 5]) ∧ Below W.heap.size W w') := by
              intro W
              have h := implFarmHear_any true fw fa fc fn false false xc xv xq xd room W hdm
              rw [fh_shut HF.out HX.out] at h
              exact h
            have HS : Hid (∀ W, Calls Try.prog 10 #[.agg #[.bool true, .bool fw, .bool fa, .int .i64 fc, .int .i64 fn], .agg #[.bool false, .bool false, .int .i64 xc, .int .i64 xv, .int .i64 xq, .string xd], .bool room] W fun e w' => e = .returned (.tuple #[.agg #[.bool true, .bool fw, .bool fa, .int .i64 fc, .int .i64 fn], .int .i64 5]) ∧ Below W.heap.size W w') := by
              intro W
              have h := specFarmHear_any true fw fa fc fn false false xc xv xq xd room W hdm
              rw [fh_shut HF.out HX.out] at h
              exact h
            refine (HI.out _).mono ?_
            rintro e w2 ⟨rfl, hb2⟩
            have hGf : w2.heap[w1.heap.size]? = some (.cells #[.bool true, .bool fw, .bool fa, .int .i64 fc, .int .i64 fn] 24) := get_below hb2 (get_alloc (get_new rfl) (by simp)) (by simp; omega)
            have hGx : w2.heap[w1.heap.size + 1]? = some (.cells #[.bool false, .bool false, .int .i64 xc, .int .i64 xv, .int .i64 xq, .string xd] 26) := get_below hb2 (get_new (by simp)) (by simp)
            have HB2 : Hid (Below w.heap.size w w2) := ((HB1.out.alloc HB1.out.size _).alloc (by have := HB1.out.size; simp; omega) _).trans (hb2.mono (by have := HB1.out.size; simp; omega))
            clear hb2
            have hq1 : w1.heap.size + 1 < w2.heap.size := size_of_get hGx
            have hq0 : w1.heap.size < w2.heap.size := by omega
            obtain ⟨k0, k1, k2, k3, k4⟩ := cells5_of hGf
            obtain ⟨j0, j1, j2, j3, j4, j5⟩ := cells6_of hGx
            go_wp2_with fail
            refine (HS.out _).mono ?_
            rintro e w3 ⟨rfl, hb3⟩
            clear k0 k1 k2 k3 k4 j0 j1 j2 j3 j4 j5
            have hGf3 : w3.heap[w1.heap.size]? = some (.cells #[.bool true, .bool fw, .bool fa, .int .i64 fc, .int .i64 fn] 24) := get_below hb3 (get_allocS hGf) (by simp; omega)
            have hGx3 : w3.heap[w1.heap.size + 1]? = some (.cells #[.bool false, .bool false, .int .i64 xc, .int .i64 xv, .int .i64 xq, .string xd] 26) := get_below hb3 (get_allocS hGx) (by simp; omega)
            have hGy3 : w3.heap[w2.heap.size]? = some (.cells #[.bool true, .bool fw, .bool fa, .int .i64 fc, .int .i64 fn] 24) := get_below hb3 (get_new rfl) (by simp)
            have HB3 : Hid (Below w.heap.size w (w3.alloc (.cells #[.bool true, .bool fw, .bool fa, .int .i64 fc, .int .i64 fn] 24))) := ((HB2.out.alloc HB2.out.size _).trans (hb3.mono (by have := HB2.out.size; simp; omega))).alloc (by have := HB2.out.size; have := hb3.size; simp at this; omega) _
            have gf : (w3.alloc (.cells #[.bool true, .bool fw, .bool fa, .int .i64 fc, .int .i64 fn] 24)).heap[w1.heap.size]? = some (.cells #[.bool true, .bool fw, .bool fa, .int .i64 fc, .int .i64 fn] 24) := get_allocS hGf3
            have gx : (w3.alloc (.cells #[.bool true, .bool fw, .bool fa, .int .i64 fc, .int .i64 fn] 24)).heap[w1.heap.size + 1]? = some (.cells #[.bool false, .bool false, .int .i64 xc, .int .i64 xv, .int .i64 xq, .string xd] 26) := get_allocS hGx3
            have gy : (w3.alloc (.cells #[.bool true, .bool fw, .bool fa, .int .i64 fc, .int .i64 fn] 24)).heap[w2.heap.size]? = some (.cells #[.bool true, .bool fw, .bool fa, .int .i64 fc, .int .i64 fn] 24) := get_allocS hGy3
            have gz : (w3.alloc (.cells #[.bool true, .bool fw, .bool fa, .int .i64 fc, .int .i64 fn] 24)).heap[w3.heap.size]? = some (.cells #[.bool true, .bool fw, .bool fa, .int .i64 fc, .int .i64 fn] 24) := get_new rfl
            clear hGf hGx hb3
            obtain ⟨k0, k1, k2, k3, k4⟩ := cells5_of hGf3
            obtain ⟨j0, j1, j2, j3, j4, j5⟩ := cells6_of hGx3
            obtain ⟨y0, y1, y2, y3, y4⟩ := cells5_of hGy3
            have hq2 : w2.heap.size < w3.heap.size := size_of_get hGy3
            have hq3 : w1.heap.size < w3.heap.size := by omega
            have hq4 : w1.heap.size + 1 < w3.heap.size := by omega
            clear hGf3 hGx3 hGy3
            go_wp2_with fail
            clear k0 k1 k2 k3 k4 j0 j1 j2 j3 j4 j5 y0 y1 y2 y3 y4
            generalize (w3.alloc (.cells #[.bool true, .bool fw, .bool fa, .int .i64 fc, .int .i64 fn] 24)) = wr at *
            obtain ⟨k0, k1, k2, k3, k4⟩ := cells5_of gf
            obtain ⟨j0, j1, j2, j3, j4, j5⟩ := cells6_of gx
            obtain ⟨y0, y1, y2, y3, y4⟩ := cells5_of gy
            obtain ⟨z0, z1, z2, z3, z4⟩ := cells5_of gz
            have hB : Below wr.heap.size wr wr := Below.refl _ _
            clear gf gx gy gz
            refine (specFarmOk_is _ _ _ _ _ _ true HF.out).mono ?_
            rintro e wa ⟨rfl, hbb⟩
            have HK := keepC21 ⟨hB, k0, k1, k2, k3, k4, j0, j1, j2, j3, j4, j5, y0, y1, y2, y3, y4, z0, z1, z2, z3, z4⟩ hbb
            clear hbb hB k0 k1 k2 k3 k4 j0 j1 j2 j3 j4 j5 y0 y1 y2 y3 y4 z0 z1 z2 z3 z4
            obtain ⟨hB, k0, k1, k2, k3, k4, j0, j1, j2, j3, j4, j5, y0, y1, y2, y3, y4, z0, z1, z2, z3, z4⟩ := HK
            have hs0 : w1.heap.size < wa.heap.size := block_lt_of_cell k0
            have hs1 : w1.heap.size + 1 < wa.heap.size := block_lt_of_cell j0
            have hs2 : w2.heap.size < wa.heap.size := block_lt_of_cell y0
            have hs3 : w3.heap.size < wa.heap.size := block_lt_of_cell z0
            go_wp2_with fail
            refine (specFrameOk_is _ _ _ _ _ _ _ hdm true HX.out).mono ?_
            rintro e wb ⟨rfl, hbb⟩
            have HK := keepC21 ⟨hB, k0, k1, k2, k3, k4, j0, j1, j2, j3, j4, j5, y0, y1, y2, y3, y4, z0, z1, z2, z3, z4⟩ hbb
            clear hbb hB k0 k1 k2 k3 k4 j0 j1 j2 j3 j4 j5 y0 y1 y2 y3 y4 z0 z1 z2 z3 z4
            obtain ⟨hB, k0, k1, k2, k3, k4, j0, j1, j2, j3, j4, j5, y0, y1, y2, y3, y4, z0, z1, z2, z3, z4⟩ := HK
            have hs0 : w1.heap.size < wb.heap.size := block_lt_of_cell k0
            have hs1 : w1.heap.size + 1 < wb.heap.size := block_lt_of_cell j0
            have hs2 : w2.heap.size < wb.heap.size := block_lt_of_cell y0
            have hs3 : w3.heap.size < wb.heap.size := block_lt_of_cell z0
            go_wp2_with fail
            refine (HOK.out _ _ _ _ _ _ HF.out).mono ?_
            rintro e wc ⟨rfl, hbb⟩
            have HK := keepC21 ⟨hB, k0, k1, k2, k3, k4, j0, j1, j2, j3, j4, j5, y0, y1, y2, y3, y4, z0, z1, z2, z3, z4⟩ hbb
            clear hbb hB k0 k1 k2 k3 k4 j0 j1 j2 j3 j4 j5 y0 y1 y2 y3 y4 z0 z1 z2 z3 z4
            obtain ⟨hB, k0, k1, k2, k3, k4, j0, j1, j2, j3, j4, j5, y0, y1, y2, y3, y4, z0, z1, z2, z3, z4⟩ := HK
            have hs0 : w1.heap.size < wc.heap.size := block_lt_of_cell k0
            have hs1 : w1.heap.size + 1 < wc.heap.size := block_lt_of_cell j0
            have hs2 : w2.heap.size < wc.heap.size := block_lt_of_cell y0
            have hs3 : w3.heap.size < wc.heap.size := block_lt_of_cell z0
            go_wp2_with fail
            go_ret
            exact ⟨rfl, HB3.out.trans (hB.mono HB3.out.size)⟩
        · by_cases hT : xq = fn ∧ fw = false ∧ room = true
          · obtain ⟨hq', hw', hr'⟩ := hT
            have hq'' := hq'.symm
            clear hq'
            subst hw' hr' hq''
            have hm0 : 0 ≤ (fn + 1) % 256 := by omega
            have hm1 : (fn + 1) % 256 < 256 := by omega
            have hok : faOk false false fc ((fn + 1) % 256) = true := by simp [faOk, inB]; omega
            have HFK : Hid _ := hok
            clear hok
            have HI : Hid (∀ W, Calls Try.prog 9 #[.agg #[.bool false, .bool false, .bool fa, .int .i64 fc, .int .i64 fn], .agg #[.bool false, .bool false, .int .i64 xc, .int .i64 xv, .int .i64 fn, .string xd], .bool true] W fun e w' => e = .returned (.tuple #[.agg #[.bool false, .bool false, .bool false, .int .i64 fc, .int .i64 ((fn + 1) % 256)], .int .i64 0]) ∧ Below W.heap.size W w') := by
              intro W
              have h := implFarmHear_any false false fa fc fn false false xc xv fn xd true W hdm
              rw [fh_take HF.out HX.out] at h
              exact h
            have HS : Hid (∀ W, Calls Try.prog 10 #[.agg #[.bool false, .bool false, .bool fa, .int .i64 fc, .int .i64 fn], .agg #[.bool false, .bool false, .int .i64 xc, .int .i64 xv, .int .i64 fn, .string xd], .bool true] W fun e w' => e = .returned (.tuple #[.agg #[.bool false, .bool false, .bool false, .int .i64 fc, .int .i64 ((fn + 1) % 256)], .int .i64 0]) ∧ Below W.heap.size W w') := by
              intro W
              have h := specFarmHear_any false false fa fc fn false false xc xv fn xd true W hdm
              rw [fh_take HF.out HX.out] at h
              exact h
            refine (HI.out _).mono ?_
            rintro e w2 ⟨rfl, hb2⟩
            have hGf : w2.heap[w1.heap.size]? = some (.cells #[.bool false, .bool false, .bool fa, .int .i64 fc, .int .i64 fn] 24) := get_below hb2 (get_alloc (get_new rfl) (by simp)) (by simp; omega)
            have hGx : w2.heap[w1.heap.size + 1]? = some (.cells #[.bool false, .bool false, .int .i64 xc, .int .i64 xv, .int .i64 fn, .string xd] 26) := get_below hb2 (get_new (by simp)) (by simp)
            have HB2 : Hid (Below w.heap.size w w2) := ((HB1.out.alloc HB1.out.size _).alloc (by have := HB1.out.size; simp; omega) _).trans (hb2.mono (by have := HB1.out.size; simp; omega))
            clear hb2
            have hq1 : w1.heap.size + 1 < w2.heap.size := size_of_get hGx
            have hq0 : w1.heap.size < w2.heap.size := by omega
            obtain ⟨k0, k1, k2, k3, k4⟩ := cells5_of hGf
            obtain ⟨j0, j1, j2, j3, j4, j5⟩ := cells6_of hGx
            go_wp2_with fail
            refine (HS.out _).mono ?_
            rintro e w3 ⟨rfl, hb3⟩
            clear k0 k1 k2 k3 k4 j0 j1 j2 j3 j4 j5
            have hGf3 : w3.heap[w1.heap.size]? = some (.cells #[.bool false, .bool false, .bool fa, .int .i64 fc, .int .i64 fn] 24) := get_below hb3 (get_allocS hGf) (by simp; omega)
            have hGx3 : w3.heap[w1.heap.size + 1]? = some (.cells #[.bool false, .bool false, .int .i64 xc, .int .i64 xv, .int .i64 fn, .string xd] 26) := get_below hb3 (get_allocS hGx) (by simp; omega)
            have hGy3 : w3.heap[w2.heap.size]? = some (.cells #[.bool false, .bool false, .bool false, .int .i64 fc, .int .i64 ((fn + 1) % 256)] 24) := get_below hb3 (get_new rfl) (by simp)
            have HB3 : Hid (Below w.heap.size w (w3.alloc (.cells #[.bool false, .bool false, .bool false, .int .i64 fc, .int .i64 ((fn + 1) % 256)] 24))) := ((HB2.out.alloc HB2.out.size _).trans (hb3.mono (by have := HB2.out.size; simp; omega))).alloc (by have := HB2.out.size; have := hb3.size; simp at this; omega) _
            have gf : (w3.alloc (.cells #[.bool false, .bool false, .bool false, .int .i64 fc, .int .i64 ((fn + 1) % 256)] 24)).heap[w1.heap.size]? = some (.cells #[.bool false, .bool false, .bool fa, .int .i64 fc, .int .i64 fn] 24) := get_allocS hGf3
            have gx : (w3.alloc (.cells #[.bool false, .bool false, .bool false, .int .i64 fc, .int .i64 ((fn + 1) % 256)] 24)).heap[w1.heap.size + 1]? = some (.cells #[.bool false, .bool false, .int .i64 xc, .int .i64 xv, .int .i64 fn, .string xd] 26) := get_allocS hGx3
            have gy : (w3.alloc (.cells #[.bool false, .bool false, .bool false, .int .i64 fc, .int .i64 ((fn + 1) % 256)] 24)).heap[w2.heap.size]? = some (.cells #[.bool false, .bool false, .bool false, .int .i64 fc, .int .i64 ((fn + 1) % 256)] 24) := get_allocS hGy3
            have gz : (w3.alloc (.cells #[.bool false, .bool false, .bool false, .int .i64 fc, .int .i64 ((fn + 1) % 256)] 24)).heap[w3.heap.size]? = some (.cells #[.bool false, .bool false, .bool false, .int .i64 fc, .int .i64 ((fn + 1) % 256)] 24) := get_new rfl
            clear hGf hGx hb3
            obtain ⟨k0, k1, k2, k3, k4⟩ := cells5_of hGf3
            obtain ⟨j0, j1, j2, j3, j4, j5⟩ := cells6_of hGx3
            obtain ⟨y0, y1, y2, y3, y4⟩ := cells5_of hGy3
            have hq2 : w2.heap.size < w3.heap.size := size_of_get hGy3
            have hq3 : w1.heap.size < w3.heap.size := by omega
            have hq4 : w1.heap.size + 1 < w3.heap.size := by omega
            clear hGf3 hGx3 hGy3
            go_wp2_with fail
            clear k0 k1 k2 k3 k4 j0 j1 j2 j3 j4 j5 y0 y1 y2 y3 y4
            generalize (w3.alloc (.cells #[.bool false, .bool false, .bool false, .int .i64 fc, .int .i64 ((fn + 1) % 256)] 24)) = wr at *
            obtain ⟨k0, k1, k2, k3, k4⟩ := cells5_of gf
            obtain ⟨j0, j1, j2, j3, j4, j5⟩ := cells6_of gx
            obtain ⟨y0, y1, y2, y3, y4⟩ := cells5_of gy
            obtain ⟨z0, z1, z2, z3, z4⟩ := cells5_of gz
            have hB : Below wr.heap.size wr wr := Below.refl _ _
            clear gf gx gy gz
            refine (specFarmOk_is _ _ _ _ _ _ true HF.out).mono ?_
            rintro e wa ⟨rfl, hbb⟩
            have HK := keepC21 ⟨hB, k0, k1, k2, k3, k4, j0, j1, j2, j3, j4, j5, y0, y1, y2, y3, y4, z0, z1, z2, z3, z4⟩ hbb
            clear hbb hB k0 k1 k2 k3 k4 j0 j1 j2 j3 j4 j5 y0 y1 y2 y3 y4 z0 z1 z2 z3 z4
            obtain ⟨hB, k0, k1, k2, k3, k4, j0, j1, j2, j3, j4, j5, y0, y1, y2, y3, y4, z0, z1, z2, z3, z4⟩ := HK
            have hs0 : w1.heap.size < wa.heap.size := block_lt_of_cell k0
            have hs1 : w1.heap.size + 1 < wa.heap.size := block_lt_of_cell j0
            have hs2 : w2.heap.size < wa.heap.size := block_lt_of_cell y0
            have hs3 : w3.heap.size < wa.heap.size := block_lt_of_cell z0
            go_wp2_with fail
            refine (specFrameOk_is _ _ _ _ _ _ _ hdm true HX.out).mono ?_
            rintro e wb ⟨rfl, hbb⟩
            have HK := keepC21 ⟨hB, k0, k1, k2, k3, k4, j0, j1, j2, j3, j4, j5, y0, y1, y2, y3, y4, z0, z1, z2, z3, z4⟩ hbb
            clear hbb hB k0 k1 k2 k3 k4 j0 j1 j2 j3 j4 j5 y0 y1 y2 y3 y4 z0 z1 z2 z3 z4
            obtain ⟨hB, k0, k1, k2, k3, k4, j0, j1, j2, j3, j4, j5, y0, y1, y2, y3, y4, z0, z1, z2, z3, z4⟩ := HK
            have hs0 : w1.heap.size < wb.heap.size := block_lt_of_cell k0
            have hs1 : w1.heap.size + 1 < wb.heap.size := block_lt_of_cell j0
            have hs2 : w2.heap.size < wb.heap.size := block_lt_of_cell y0
            have hs3 : w3.heap.size < wb.heap.size := block_lt_of_cell z0
            go_wp2_with fail
            refine (HOK.out _ _ _ _ _ _ HFK.out).mono ?_
            rintro e wc ⟨rfl, hbb⟩
            have HK := keepC21 ⟨hB, k0, k1, k2, k3, k4, j0, j1, j2, j3, j4, j5, y0, y1, y2, y3, y4, z0, z1, z2, z3, z4⟩ hbb
            clear hbb hB k0 k1 k2 k3 k4 j0 j1 j2 j3 j4 j5 y0 y1 y2 y3 y4 z0 z1 z2 z3 z4
            obtain ⟨hB, k0, k1, k2, k3, k4, j0, j1, j2, j3, j4, j5, y0, y1, y2, y3, y4, z0, z1, z2, z3, z4⟩ := HK
            have hs0 : w1.heap.size < wc.heap.size := block_lt_of_cell k0
            have hs1 : w1.heap.size + 1 < wc.heap.size := block_lt_of_cell j0
            have hs2 : w2.heap.size < wc.heap.size := block_lt_of_cell y0
            have hs3 : w3.heap.size < wc.heap.size := block_lt_of_cell z0
            go_wp2_with fail
            go_ret
            exact ⟨rfl, HB3.out.trans (hB.mono HB3.out.size)⟩
          · obtain ⟨ys, yw, ya, yk, hy, hk, hyo⟩ := ord_not (s := false) (ag := fa) (c := fc) ⟨n0, n1⟩ ⟨q0, q1⟩ rfl hT HF.out
            have hy2 := fh_ord (s := false) (room := room) HF.out HX.out
            rw [hy] at hy2
            have HYO : Hid _ := hyo
            clear hyo hy
            by_cases hqn : xq = fn
            · subst hqn
              by_cases hw : fw = true
              rotate_left
              · have hw : fw = false := by simpa using hw
                subst hw
                cases room
                · have HI : Hid (∀ W, Calls Try.prog 9 #[.agg #[.bool false, .bool false, .bool fa, .int .i64 fc, .int .i64 xq], .agg #[.bool false, .bool false, .int .i64 xc, .int .i64 xv, .int .i64 xq, .string xd], .bool false] W fun e w' => e = .returned (.tuple #[.agg #[.bool ys, .bool yw, .bool ya, .int .i64 fc, .int .i64 xq], .int .i64 yk]) ∧ Below W.heap.size W w') := by
                    intro W
                    have h := implFarmHear_any false false fa fc xq false false xc xv xq xd false W hdm
                    rw [hy2] at h
                    exact h
                  have HS : Hid (∀ W, Calls Try.prog 10 #[.agg #[.bool false, .bool false, .bool fa, .int .i64 fc, .int .i64 xq], .agg #[.bool false, .bool false, .int .i64 xc, .int .i64 xv, .int .i64 xq, .string xd], .bool false] W fun e w' => e = .returned (.tuple #[.agg #[.bool ys, .bool yw, .bool ya, .int .i64 fc, .int .i64 xq], .int .i64 yk]) ∧ Below W.heap.size W w') := by
                    intro W
                    have h := specFarmHear_any false false fa fc xq false false xc xv xq xd false W hdm
                    rw [hy2] at h
                    exact h
                  clear hy2 hT
                  refine (HI.out _).mono ?_
                  rintro e w2 ⟨rfl, hb2⟩
                  have hGf : w2.heap[w1.heap.size]? = some (.cells #[.bool false, .bool false, .bool fa, .int .i64 fc, .int .i64 xq] 24) := get_below hb2 (get_alloc (get_new rfl) (by simp)) (by simp; omega)
                  have hGx : w2.heap[w1.heap.size + 1]? = some (.cells #[.bool false, .bool false, .int .i64 xc, .int .i64 xv, .int .i64 xq, .string xd] 26) := get_below hb2 (get_new (by simp)) (by simp)
                  have HB2 : Hid (Below w.heap.size w w2) := ((HB1.out.alloc HB1.out.size _).alloc (by have := HB1.out.size; simp; omega) _).trans (hb2.mono (by have := HB1.out.size; simp; omega))
                  clear hb2
                  have hq1 : w1.heap.size + 1 < w2.heap.size := size_of_get hGx
                  have hq0 : w1.heap.size < w2.heap.size := by omega
                  obtain ⟨k0, k1, k2, k3, k4⟩ := cells5_of hGf
                  obtain ⟨j0, j1, j2, j3, j4, j5⟩ := cells6_of hGx
                  go_wp2_with fail
                  refine (HS.out _).mono ?_
                  rintro e w3 ⟨rfl, hb3⟩
                  clear k0 k1 k2 k3 k4 j0 j1 j2 j3 j4 j5
                  have hGf3 : w3.heap[w1.heap.size]? = some (.cells #[.bool false, .bool false, .bool fa, .int .i64 fc, .int .i64 xq] 24) := get_below hb3 (get_allocS hGf) (by simp; omega)
                  have hGx3 : w3.heap[w1.heap.size + 1]? = some (.cells #[.bool false, .bool false, .int .i64 xc, .int .i64 xv, .int .i64 xq, .string xd] 26) := get_below hb3 (get_allocS hGx) (by simp; omega)
                  have hGy3 : w3.heap[w2.heap.size]? = some (.cells #[.bool ys, .bool yw, .bool ya, .int .i64 fc, .int .i64 xq] 24) := get_below hb3 (get_new rfl) (by simp)
                  have HB3 : Hid (Below w.heap.size w (w3.alloc (.cells #[.bool ys, .bool yw, .bool ya, .int .i64 fc, .int .i64 xq] 24))) := ((HB2.out.alloc HB2.out.size _).trans (hb3.mono (by have := HB2.out.size; simp; omega))).alloc (by have := HB2.out.size; have := hb3.size; simp at this; omega) _
                  have gf : (w3.alloc (.cells #[.bool ys, .bool yw, .bool ya, .int .i64 fc, .int .i64 xq] 24)).heap[w1.heap.size]? = some (.cells #[.bool false, .bool false, .bool fa, .int .i64 fc, .int .i64 xq] 24) := get_allocS hGf3
                  have gx : (w3.alloc (.cells #[.bool ys, .bool yw, .bool ya, .int .i64 fc, .int .i64 xq] 24)).heap[w1.heap.size + 1]? = some (.cells #[.bool false, .bool false, .int .i64 xc, .int .i64 xv, .int .i64 xq, .string xd] 26) := get_allocS hGx3
                  have gy : (w3.alloc (.cells #[.bool ys, .bool yw, .bool ya, .int .i64 fc, .int .i64 xq] 24)).heap[w2.heap.size]? = some (.cells #[.bool ys, .bool yw, .bool ya, .int .i64 fc, .int .i64 xq] 24) := get_allocS hGy3
                  have gz : (w3.alloc (.cells #[.bool ys, .bool yw, .bool ya, .int .i64 fc, .int .i64 xq] 24)).heap[w3.heap.size]? = some (.cells #[.bool ys, .bool yw, .bool ya, .int .i64 fc, .int .i64 xq] 24) := get_new rfl
                  clear hGf hGx hb3
                  obtain ⟨k0, k1, k2, k3, k4⟩ := cells5_of hGf3
                  obtain ⟨j0, j1, j2, j3, j4, j5⟩ := cells6_of hGx3
                  obtain ⟨y0, y1, y2, y3, y4⟩ := cells5_of hGy3
                  have hq2 : w2.heap.size < w3.heap.size := size_of_get hGy3
                  have hq3 : w1.heap.size < w3.heap.size := by omega
                  have hq4 : w1.heap.size + 1 < w3.heap.size := by omega
                  clear hGf3 hGx3 hGy3
                  go_wp2_with fail
                  clear k0 k1 k2 k3 k4 j0 j1 j2 j3 j4 j5 y0 y1 y2 y3 y4
                  generalize (w3.alloc (.cells #[.bool ys, .bool yw, .bool ya, .int .i64 fc, .int .i64 xq] 24)) = wr at *
                  obtain ⟨k0, k1, k2, k3, k4⟩ := cells5_of gf
                  obtain ⟨j0, j1, j2, j3, j4, j5⟩ := cells6_of gx
                  obtain ⟨y0, y1, y2, y3, y4⟩ := cells5_of gy
                  obtain ⟨z0, z1, z2, z3, z4⟩ := cells5_of gz
                  have hB : Below wr.heap.size wr wr := Below.refl _ _
                  clear gf gx gy gz
                  refine (specFarmOk_is _ _ _ _ _ _ true HF.out).mono ?_
                  rintro e wa ⟨rfl, hbb⟩
                  have HK := keepC21 ⟨hB, k0, k1, k2, k3, k4, j0, j1, j2, j3, j4, j5, y0, y1, y2, y3, y4, z0, z1, z2, z3, z4⟩ hbb
                  clear hbb hB k0 k1 k2 k3 k4 j0 j1 j2 j3 j4 j5 y0 y1 y2 y3 y4 z0 z1 z2 z3 z4
                  obtain ⟨hB, k0, k1, k2, k3, k4, j0, j1, j2, j3, j4, j5, y0, y1, y2, y3, y4, z0, z1, z2, z3, z4⟩ := HK
                  have hs0 : w1.heap.size < wa.heap.size := block_lt_of_cell k0
                  have hs1 : w1.heap.size + 1 < wa.heap.size := block_lt_of_cell j0
                  have hs2 : w2.heap.size < wa.heap.size := block_lt_of_cell y0
                  have hs3 : w3.heap.size < wa.heap.size := block_lt_of_cell z0
                  go_wp2_with fail
                  refine (specFrameOk_is _ _ _ _ _ _ _ hdm true HX.out).mono ?_
                  rintro e wb ⟨rfl, hbb⟩
                  have HK := keepC21 ⟨hB, k0, k1, k2, k3, k4, j0, j1, j2, j3, j4, j5, y0, y1, y2, y3, y4, z0, z1, z2, z3, z4⟩ hbb
                  clear hbb hB k0 k1 k2 k3 k4 j0 j1 j2 j3 j4 j5 y0 y1 y2 y3 y4 z0 z1 z2 z3 z4
                  obtain ⟨hB, k0, k1, k2, k3, k4, j0, j1, j2, j3, j4, j5, y0, y1, y2, y3, y4, z0, z1, z2, z3, z4⟩ := HK
                  have hs0 : w1.heap.size < wb.heap.size := block_lt_of_cell k0
                  have hs1 : w1.heap.size + 1 < wb.heap.size := block_lt_of_cell j0
                  have hs2 : w2.heap.size < wb.heap.size := block_lt_of_cell y0
                  have hs3 : w3.heap.size < wb.heap.size := block_lt_of_cell z0
                  go_wp2_with fail
                  refine (HOK.out _ _ _ _ _ _ HYO.out).mono ?_
                  rintro e wc ⟨rfl, hbb⟩
                  have HK := keepC21 ⟨hB, k0, k1, k2, k3, k4, j0, j1, j2, j3, j4, j5, y0, y1, y2, y3, y4, z0, z1, z2, z3, z4⟩ hbb
                  clear hbb hB k0 k1 k2 k3 k4 j0 j1 j2 j3 j4 j5 y0 y1 y2 y3 y4 z0 z1 z2 z3 z4
                  obtain ⟨hB, k0, k1, k2, k3, k4, j0, j1, j2, j3, j4, j5, y0, y1, y2, y3, y4, z0, z1, z2, z3, z4⟩ := HK
                  have hs0 : w1.heap.size < wc.heap.size := block_lt_of_cell k0
                  have hs1 : w1.heap.size + 1 < wc.heap.size := block_lt_of_cell j0
                  have hs2 : w2.heap.size < wc.heap.size := block_lt_of_cell y0
                  have hs3 : w3.heap.size < wc.heap.size := block_lt_of_cell z0
                  go_wp2_with fail
                  go_ret
                  exact ⟨rfl, HB3.out.trans (hB.mono HB3.out.size)⟩
                · exact absurd ⟨rfl, rfl, rfl⟩ hT
              · have HW : Hid _ := hw
                clear hw
                have HI : Hid (∀ W, Calls Try.prog 9 #[.agg #[.bool false, .bool fw, .bool fa, .int .i64 fc, .int .i64 xq], .agg #[.bool false, .bool false, .int .i64 xc, .int .i64 xv, .int .i64 xq, .string xd], .bool room] W fun e w' => e = .returned (.tuple #[.agg #[.bool ys, .bool yw, .bool ya, .int .i64 fc, .int .i64 xq], .int .i64 yk]) ∧ Below W.heap.size W w') := by
                  intro W
                  have h := implFarmHear_any false fw fa fc xq false false xc xv xq xd room W hdm
                  rw [hy2] at h
                  exact h
                have HS : Hid (∀ W, Calls Try.prog 10 #[.agg #[.bool false, .bool fw, .bool fa, .int .i64 fc, .int .i64 xq], .agg #[.bool false, .bool false, .int .i64 xc, .int .i64 xv, .int .i64 xq, .string xd], .bool room] W fun e w' => e = .returned (.tuple #[.agg #[.bool ys, .bool yw, .bool ya, .int .i64 fc, .int .i64 xq], .int .i64 yk]) ∧ Below W.heap.size W w') := by
                  intro W
                  have h := specFarmHear_any false fw fa fc xq false false xc xv xq xd room W hdm
                  rw [hy2] at h
                  exact h
                clear hy2 hT
                refine (HI.out _).mono ?_
                rintro e w2 ⟨rfl, hb2⟩
                have hGf : w2.heap[w1.heap.size]? = some (.cells #[.bool false, .bool fw, .bool fa, .int .i64 fc, .int .i64 xq] 24) := get_below hb2 (get_alloc (get_new rfl) (by simp)) (by simp; omega)
                have hGx : w2.heap[w1.heap.size + 1]? = some (.cells #[.bool false, .bool false, .int .i64 xc, .int .i64 xv, .int .i64 xq, .string xd] 26) := get_below hb2 (get_new (by simp)) (by simp)
                have HB2 : Hid (Below w.heap.size w w2) := ((HB1.out.alloc HB1.out.size _).alloc (by have := HB1.out.size; simp; omega) _).trans (hb2.mono (by have := HB1.out.size; simp; omega))
                clear hb2
                have hq1 : w1.heap.size + 1 < w2.heap.size := size_of_get hGx
                have hq0 : w1.heap.size < w2.heap.size := by omega
                obtain ⟨k0, k1, k2, k3, k4⟩ := cells5_of hGf
                obtain ⟨j0, j1, j2, j3, j4, j5⟩ := cells6_of hGx
                go_wp2_with fail
                refine (HS.out _).mono ?_
                rintro e w3 ⟨rfl, hb3⟩
                clear k0 k1 k2 k3 k4 j0 j1 j2 j3 j4 j5
                have hGf3 : w3.heap[w1.heap.size]? = some (.cells #[.bool false, .bool fw, .bool fa, .int .i64 fc, .int .i64 xq] 24) := get_below hb3 (get_allocS hGf) (by simp; omega)
                have hGx3 : w3.heap[w1.heap.size + 1]? = some (.cells #[.bool false, .bool false, .int .i64 xc, .int .i64 xv, .int .i64 xq, .string xd] 26) := get_below hb3 (get_allocS hGx) (by simp; omega)
                have hGy3 : w3.heap[w2.heap.size]? = some (.cells #[.bool ys, .bool yw, .bool ya, .int .i64 fc, .int .i64 xq] 24) := get_below hb3 (get_new rfl) (by simp)
                have HB3 : Hid (Below w.heap.size w (w3.alloc (.cells #[.bool ys, .bool yw, .bool ya, .int .i64 fc, .int .i64 xq] 24))) := ((HB2.out.alloc HB2.out.size _).trans (hb3.mono (by have := HB2.out.size; simp; omega))).alloc (by have := HB2.out.size; have := hb3.size; simp at this; omega) _
                have gf : (w3.alloc (.cells #[.bool ys, .bool yw, .bool ya, .int .i64 fc, .int .i64 xq] 24)).heap[w1.heap.size]? = some (.cells #[.bool false, .bool fw, .bool fa, .int .i64 fc, .int .i64 xq] 24) := get_allocS hGf3
                have gx : (w3.alloc (.cells #[.bool ys, .bool yw, .bool ya, .int .i64 fc, .int .i64 xq] 24)).heap[w1.heap.size + 1]? = some (.cells #[.bool false, .bool false, .int .i64 xc, .int .i64 xv, .int .i64 xq, .string xd] 26) := get_allocS hGx3
                have gy : (w3.alloc (.cells #[.bool ys, .bool yw, .bool ya, .int .i64 fc, .int .i64 xq] 24)).heap[w2.heap.size]? = some (.cells #[.bool ys, .bool yw, .bool ya, .int .i64 fc, .int .i64 xq] 24) := get_allocS hGy3
                have gz : (w3.alloc (.cells #[.bool ys, .bool yw, .bool ya, .int .i64 fc, .int .i64 xq] 24)).heap[w3.heap.size]? = some (.cells #[.bool ys, .bool yw, .bool ya, .int .i64 fc, .int .i64 xq] 24) := get_new rfl
                clear hGf hGx hb3
                obtain ⟨k0, k1, k2, k3, k4⟩ := cells5_of hGf3
                obtain ⟨j0, j1, j2, j3, j4, j5⟩ := cells6_of hGx3
                obtain ⟨y0, y1, y2, y3, y4⟩ := cells5_of hGy3
                have hq2 : w2.heap.size < w3.heap.size := size_of_get hGy3
                have hq3 : w1.heap.size < w3.heap.size := by omega
                have hq4 : w1.heap.size + 1 < w3.heap.size := by omega
                clear hGf3 hGx3 hGy3
                go_wp2_with fail
                clear k0 k1 k2 k3 k4 j0 j1 j2 j3 j4 j5 y0 y1 y2 y3 y4
                generalize (w3.alloc (.cells #[.bool ys, .bool yw, .bool ya, .int .i64 fc, .int .i64 xq] 24)) = wr at *
                obtain ⟨k0, k1, k2, k3, k4⟩ := cells5_of gf
                obtain ⟨j0, j1, j2, j3, j4, j5⟩ := cells6_of gx
                obtain ⟨y0, y1, y2, y3, y4⟩ := cells5_of gy
                obtain ⟨z0, z1, z2, z3, z4⟩ := cells5_of gz
                have hB : Below wr.heap.size wr wr := Below.refl _ _
                clear gf gx gy gz
                refine (specFarmOk_is _ _ _ _ _ _ true HF.out).mono ?_
                rintro e wa ⟨rfl, hbb⟩
                have HK := keepC21 ⟨hB, k0, k1, k2, k3, k4, j0, j1, j2, j3, j4, j5, y0, y1, y2, y3, y4, z0, z1, z2, z3, z4⟩ hbb
                clear hbb hB k0 k1 k2 k3 k4 j0 j1 j2 j3 j4 j5 y0 y1 y2 y3 y4 z0 z1 z2 z3 z4
                obtain ⟨hB, k0, k1, k2, k3, k4, j0, j1, j2, j3, j4, j5, y0, y1, y2, y3, y4, z0, z1, z2, z3, z4⟩ := HK
                have hs0 : w1.heap.size < wa.heap.size := block_lt_of_cell k0
                have hs1 : w1.heap.size + 1 < wa.heap.size := block_lt_of_cell j0
                have hs2 : w2.heap.size < wa.heap.size := block_lt_of_cell y0
                have hs3 : w3.heap.size < wa.heap.size := block_lt_of_cell z0
                go_wp2_with fail
                refine (specFrameOk_is _ _ _ _ _ _ _ hdm true HX.out).mono ?_
                rintro e wb ⟨rfl, hbb⟩
                have HK := keepC21 ⟨hB, k0, k1, k2, k3, k4, j0, j1, j2, j3, j4, j5, y0, y1, y2, y3, y4, z0, z1, z2, z3, z4⟩ hbb
                clear hbb hB k0 k1 k2 k3 k4 j0 j1 j2 j3 j4 j5 y0 y1 y2 y3 y4 z0 z1 z2 z3 z4
                obtain ⟨hB, k0, k1, k2, k3, k4, j0, j1, j2, j3, j4, j5, y0, y1, y2, y3, y4, z0, z1, z2, z3, z4⟩ := HK
                have hs0 : w1.heap.size < wb.heap.size := block_lt_of_cell k0
                have hs1 : w1.heap.size + 1 < wb.heap.size := block_lt_of_cell j0
                have hs2 : w2.heap.size < wb.heap.size := block_lt_of_cell y0
                have hs3 : w3.heap.size < wb.heap.size := block_lt_of_cell z0
                have hw := HW.out
                subst hw
                go_wp2_with fail
                refine (HOK.out _ _ _ _ _ _ HYO.out).mono ?_
                rintro e wc ⟨rfl, hbb⟩
                have HK := keepC21 ⟨hB, k0, k1, k2, k3, k4, j0, j1, j2, j3, j4, j5, y0, y1, y2, y3, y4, z0, z1, z2, z3, z4⟩ hbb
                clear hbb hB k0 k1 k2 k3 k4 j0 j1 j2 j3 j4 j5 y0 y1 y2 y3 y4 z0 z1 z2 z3 z4
                obtain ⟨hB, k0, k1, k2, k3, k4, j0, j1, j2, j3, j4, j5, y0, y1, y2, y3, y4, z0, z1, z2, z3, z4⟩ := HK
                have hs0 : w1.heap.size < wc.heap.size := block_lt_of_cell k0
                have hs1 : w1.heap.size + 1 < wc.heap.size := block_lt_of_cell j0
                have hs2 : w2.heap.size < wc.heap.size := block_lt_of_cell y0
                have hs3 : w3.heap.size < wc.heap.size := block_lt_of_cell z0
                go_wp2_with fail
                go_ret
                exact ⟨rfl, HB3.out.trans (hB.mono HB3.out.size)⟩
            · have HI : Hid (∀ W, Calls Try.prog 9 #[.agg #[.bool false, .bool fw, .bool fa, .int .i64 fc, .int .i64 fn], .agg #[.bool false, .bool false, .int .i64 xc, .int .i64 xv, .int .i64 xq, .string xd], .bool room] W fun e w' => e = .returned (.tuple #[.agg #[.bool ys, .bool yw, .bool ya, .int .i64 fc, .int .i64 fn], .int .i64 yk]) ∧ Below W.heap.size W w') := by
                intro W
                have h := implFarmHear_any false fw fa fc fn false false xc xv xq xd room W hdm
                rw [hy2] at h
                exact h
              have HS : Hid (∀ W, Calls Try.prog 10 #[.agg #[.bool false, .bool fw, .bool fa, .int .i64 fc, .int .i64 fn], .agg #[.bool false, .bool false, .int .i64 xc, .int .i64 xv, .int .i64 xq, .string xd], .bool room] W fun e w' => e = .returned (.tuple #[.agg #[.bool ys, .bool yw, .bool ya, .int .i64 fc, .int .i64 fn], .int .i64 yk]) ∧ Below W.heap.size W w') := by
                intro W
                have h := specFarmHear_any false fw fa fc fn false false xc xv xq xd room W hdm
                rw [hy2] at h
                exact h
              clear hy2 hT
              refine (HI.out _).mono ?_
              rintro e w2 ⟨rfl, hb2⟩
              have hGf : w2.heap[w1.heap.size]? = some (.cells #[.bool false, .bool fw, .bool fa, .int .i64 fc, .int .i64 fn] 24) := get_below hb2 (get_alloc (get_new rfl) (by simp)) (by simp; omega)
              have hGx : w2.heap[w1.heap.size + 1]? = some (.cells #[.bool false, .bool false, .int .i64 xc, .int .i64 xv, .int .i64 xq, .string xd] 26) := get_below hb2 (get_new (by simp)) (by simp)
              have HB2 : Hid (Below w.heap.size w w2) := ((HB1.out.alloc HB1.out.size _).alloc (by have := HB1.out.size; simp; omega) _).trans (hb2.mono (by have := HB1.out.size; simp; omega))
              clear hb2
              have hq1 : w1.heap.size + 1 < w2.heap.size := size_of_get hGx
              have hq0 : w1.heap.size < w2.heap.size := by omega
              obtain ⟨k0, k1, k2, k3, k4⟩ := cells5_of hGf
              obtain ⟨j0, j1, j2, j3, j4, j5⟩ := cells6_of hGx
              go_wp2_with fail
              refine (HS.out _).mono ?_
              rintro e w3 ⟨rfl, hb3⟩
              clear k0 k1 k2 k3 k4 j0 j1 j2 j3 j4 j5
              have hGf3 : w3.heap[w1.heap.size]? = some (.cells #[.bool false, .bool fw, .bool fa, .int .i64 fc, .int .i64 fn] 24) := get_below hb3 (get_allocS hGf) (by simp; omega)
              have hGx3 : w3.heap[w1.heap.size + 1]? = some (.cells #[.bool false, .bool false, .int .i64 xc, .int .i64 xv, .int .i64 xq, .string xd] 26) := get_below hb3 (get_allocS hGx) (by simp; omega)
              have hGy3 : w3.heap[w2.heap.size]? = some (.cells #[.bool ys, .bool yw, .bool ya, .int .i64 fc, .int .i64 fn] 24) := get_below hb3 (get_new rfl) (by simp)
              have HB3 : Hid (Below w.heap.size w (w3.alloc (.cells #[.bool ys, .bool yw, .bool ya, .int .i64 fc, .int .i64 fn] 24))) := ((HB2.out.alloc HB2.out.size _).trans (hb3.mono (by have := HB2.out.size; simp; omega))).alloc (by have := HB2.out.size; have := hb3.size; simp at this; omega) _
              have gf : (w3.alloc (.cells #[.bool ys, .bool yw, .bool ya, .int .i64 fc, .int .i64 fn] 24)).heap[w1.heap.size]? = some (.cells #[.bool false, .bool fw, .bool fa, .int .i64 fc, .int .i64 fn] 24) := get_allocS hGf3
              have gx : (w3.alloc (.cells #[.bool ys, .bool yw, .bool ya, .int .i64 fc, .int .i64 fn] 24)).heap[w1.heap.size + 1]? = some (.cells #[.bool false, .bool false, .int .i64 xc, .int .i64 xv, .int .i64 xq, .string xd] 26) := get_allocS hGx3
              have gy : (w3.alloc (.cells #[.bool ys, .bool yw, .bool ya, .int .i64 fc, .int .i64 fn] 24)).heap[w2.heap.size]? = some (.cells #[.bool ys, .bool yw, .bool ya, .int .i64 fc, .int .i64 fn] 24) := get_allocS hGy3
              have gz : (w3.alloc (.cells #[.bool ys, .bool yw, .bool ya, .int .i64 fc, .int .i64 fn] 24)).heap[w3.heap.size]? = some (.cells #[.bool ys, .bool yw, .bool ya, .int .i64 fc, .int .i64 fn] 24) := get_new rfl
              clear hGf hGx hb3
              obtain ⟨k0, k1, k2, k3, k4⟩ := cells5_of hGf3
              obtain ⟨j0, j1, j2, j3, j4, j5⟩ := cells6_of hGx3
              obtain ⟨y0, y1, y2, y3, y4⟩ := cells5_of hGy3
              have hq2 : w2.heap.size < w3.heap.size := size_of_get hGy3
              have hq3 : w1.heap.size < w3.heap.size := by omega
              have hq4 : w1.heap.size + 1 < w3.heap.size := by omega
              clear hGf3 hGx3 hGy3
              go_wp2_with fail
              clear k0 k1 k2 k3 k4 j0 j1 j2 j3 j4 j5 y0 y1 y2 y3 y4
              generalize (w3.alloc (.cells #[.bool ys, .bool yw, .bool ya, .int .i64 fc, .int .i64 fn] 24)) = wr at *
              obtain ⟨k0, k1, k2, k3, k4⟩ := cells5_of gf
              obtain ⟨j0, j1, j2, j3, j4, j5⟩ := cells6_of gx
              obtain ⟨y0, y1, y2, y3, y4⟩ := cells5_of gy
              obtain ⟨z0, z1, z2, z3, z4⟩ := cells5_of gz
              have hB : Below wr.heap.size wr wr := Below.refl _ _
              clear gf gx gy gz
              refine (specFarmOk_is _ _ _ _ _ _ true HF.out).mono ?_
              rintro e wa ⟨rfl, hbb⟩
              have HK := keepC21 ⟨hB, k0, k1, k2, k3, k4, j0, j1, j2, j3, j4, j5, y0, y1, y2, y3, y4, z0, z1, z2, z3, z4⟩ hbb
              clear hbb hB k0 k1 k2 k3 k4 j0 j1 j2 j3 j4 j5 y0 y1 y2 y3 y4 z0 z1 z2 z3 z4
              obtain ⟨hB, k0, k1, k2, k3, k4, j0, j1, j2, j3, j4, j5, y0, y1, y2, y3, y4, z0, z1, z2, z3, z4⟩ := HK
              have hs0 : w1.heap.size < wa.heap.size := block_lt_of_cell k0
              have hs1 : w1.heap.size + 1 < wa.heap.size := block_lt_of_cell j0
              have hs2 : w2.heap.size < wa.heap.size := block_lt_of_cell y0
              have hs3 : w3.heap.size < wa.heap.size := block_lt_of_cell z0
              go_wp2_with fail
              refine (specFrameOk_is _ _ _ _ _ _ _ hdm true HX.out).mono ?_
              rintro e wb ⟨rfl, hbb⟩
              have HK := keepC21 ⟨hB, k0, k1, k2, k3, k4, j0, j1, j2, j3, j4, j5, y0, y1, y2, y3, y4, z0, z1, z2, z3, z4⟩ hbb
              clear hbb hB k0 k1 k2 k3 k4 j0 j1 j2 j3 j4 j5 y0 y1 y2 y3 y4 z0 z1 z2 z3 z4
              obtain ⟨hB, k0, k1, k2, k3, k4, j0, j1, j2, j3, j4, j5, y0, y1, y2, y3, y4, z0, z1, z2, z3, z4⟩ := HK
              have hs0 : w1.heap.size < wb.heap.size := block_lt_of_cell k0
              have hs1 : w1.heap.size + 1 < wb.heap.size := block_lt_of_cell j0
              have hs2 : w2.heap.size < wb.heap.size := block_lt_of_cell y0
              have hs3 : w3.heap.size < wb.heap.size := block_lt_of_cell z0
              go_wp2_with fail
              refine (HOK.out _ _ _ _ _ _ HYO.out).mono ?_
              rintro e wc ⟨rfl, hbb⟩
              have HK := keepC21 ⟨hB, k0, k1, k2, k3, k4, j0, j1, j2, j3, j4, j5, y0, y1, y2, y3, y4, z0, z1, z2, z3, z4⟩ hbb
              clear hbb hB k0 k1 k2 k3 k4 j0 j1 j2 j3 j4 j5 y0 y1 y2 y3 y4 z0 z1 z2 z3 z4
              obtain ⟨hB, k0, k1, k2, k3, k4, j0, j1, j2, j3, j4, j5, y0, y1, y2, y3, y4, z0, z1, z2, z3, z4⟩ := HK
              have hs0 : w1.heap.size < wc.heap.size := block_lt_of_cell k0
              have hs1 : w1.heap.size + 1 < wc.heap.size := block_lt_of_cell j0
              have hs2 : w2.heap.size < wc.heap.size := block_lt_of_cell y0
              have hs3 : w3.heap.size < wc.heap.size := block_lt_of_cell z0
              go_wp2_with fail
              go_ret
              exact ⟨rfl, HB3.out.trans (hB.mono HB3.out.size)⟩
theorem FnFarmOrder_own : ownKnob Try.prog.godebug = none := by kernel_rfl
theorem FnFarmOrder_laidOut : laidOutB Try.prog = true := by kernel_rfl
set_option maxRecDepth 100000 in
theorem FnFarmOrder_lifted (os : Os) (started : os.Started) (H : Type) (enc : TypeId × Value → H) :
    ReturnsInHanded {} Try.checked os 6 .any (Rows.fnFarmOrderSpec.pre6 enc Try.prog Try.f6 Rows.fnFarmOrderRow.domain false) (Rows.fnFarmOrderSpec.post enc Try.prog Try.f6 false true false false) := by
  refine returnsInHanded_of_change (C := Try.checked) FnFarmOrder_own started (by kernel_rfl) Try.func6
    (ChangeSpec.witness6 (enc := enc) (C := Try.checked) false ⟨#[], #[.slice none 0 0], []⟩ 8 (by kernel_rfl) (by kernel_rfl) (by kernel_rfl) (by kernel_rfl)) ?_
  intro W base args ds gs before hval0 hW hcnd _
  have hval : ∀ (j : Nat) t v, Try.f6.params[j]? = some t → args[j]? = some v → Value.okWide Try.prog W .any base t v := hval0
  have hW' := hW
  obtain ⟨p, q, hA0, hV, rfl, hfz, hnd⟩ := hW
  have hA : DataW.TrodAll enc Try.prog W 0 (fun _ => true) true Try.f6.params.toList args.toList ds p := hA0
  rw [Try.params6] at hA hval
  obtain ⟨v0, vs0, d0, ds0, p0, q0, hargs, rfl, rfl, h0, r0⟩ := trodAll_cons hA
  obtain ⟨rfl, rfl, rfl⟩ := trodAll_nil r0
  obtain rfl : args = #[v0] := by cases args; simp_all
  obtain ⟨rfl, rfl⟩ := trodVars_none hV
  obtain ⟨a0, len0, cap0, rfl⟩ := okWide_slice Try.underlying22 (hval 0 22 v0 rfl rfl)
  have k0 := h0
  have lt0 : ∀ x ∈ p0, x.block < W.heap.size := by obtain ⟨m, hm⟩ := k0; exact DataW.trod_lt m _ _ _ hm
  obtain ⟨z0, w0⟩ : ∃ zs, IsRow .u8 W a0 len0 cap0 zs := by
    obtain ⟨fuel, hf⟩ := h0
    rcases open_ints Try.underlying22 Try.underlying5 (by kernel_rfl) hf with ⟨hcs, _⟩ | ⟨x, l, c, zs, hcs, _, hl, hm, hz, _, hcell, hwz⟩
    · simp [Value.cells] at hcs
      obtain ⟨rfl, rfl, rfl⟩ := hcs
      exact ⟨[], .inl ⟨rfl, rfl, rfl, rfl⟩⟩
    · simp [Value.cells] at hcs
      obtain ⟨rfl, rfl, rfl⟩ := hcs
      exact ⟨zs, .inr ⟨_, rfl, hl, hm, by simpa using hz, hcell, hwz⟩⟩
  clear hA0 hval0
  refine (FnFarmOrder_walk a0 len0 cap0 z0 W w0).mono fun e W' ⟨he, bel⟩ => ?_
  subst he
  exact ⟨_, rfl, _, _, _, [], _, [], hW', trodAll_mk1 (shut_bool Try.underlying4 _), (trodAll_cons_mk (Below.trod FnFarmOrder_laidOut (by kernel_rfl) (of_decide_eq_true (by kernel_rfl)) k0 bel lt0) trodAll_mk0), rfl, bel.frame _, fun h => by cases h⟩
theorem FnFarmOrder_holds : Rows.FnFarmOrderSaid :=
  OpenClaim.holds_of_wide 6 Try.f6 rfl rfl rfl rfl rfl rfl rfl ⟨rfl, rfl, rfl, rfl, rfl⟩ rfl rfl rfl rfl rfl (by kernel_rfl) Try.func6 (by kernel_rfl)
    (of_decide_eq_true (by kernel_rfl)) (by unfold Func.isWrapper; first | (rw [if_pos (by decide +kernel)]; kernel_rfl) | (rw [if_neg (by decide +kernel)]; exact ⟨rfl, rfl⟩))
    (fun os started H enc _ => FnFarmOrder_lifted os started H enc)
#print axioms FnFarmOrder_holds
end Go.Proofs.Ytfojljhpobdcdaa
