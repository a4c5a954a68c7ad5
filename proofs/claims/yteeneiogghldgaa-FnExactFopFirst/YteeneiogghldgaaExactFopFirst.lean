/- Proved: laws.FnExactFopFirst returns true at every Fop (impl.FopFirst answers as spec.FopFirst, and writes nothing into it), and leaves it as it was. No condition. -/
import Derived.Test.YteeneiogghldgaaFpX
import Derived.Test.YteeneiogghldgaaAgf
import Derived.Test.YteeneiogghldgaaKeep
import Derived.Test.YteeneiogghldgaaFrame
import Derived.Deep.RegionHeld2
namespace Go.Proofs.Yteeneiogghldgaa
open Go.ChangeShapes Go.WideShapes Go.ChangeAt Go.RowKit
set_option linter.unusedVariables false

open Go.ChangeMaps (open_string shut_string)
set_option maxRecDepth 100000 in
set_option maxHeartbeats 4000000 in
theorem FnExactFopFirst_walk (c v x : Int) (a : Option Addr) (n cap : Nat) (f : Nat → ByteArray) (s : Bool) (w : World) (hn : n ≤ maxLen) (h : Txt w a n f) :
    Calls Try.prog 10 #[.agg #[.int .i64 c, .int .i64 v, .int .i64 x, .slice a n cap, .bool s]] w fun e w' => e = .returned (.bool true) ∧ Below w.heap.size w w' := by
  have HT : Hid (Txt (w.alloc (.cells #[.int .i64 c, .int .i64 v, .int .i64 x, .slice a n cap, .bool s] 51)) a n f) := h.alloc _
  have HB0 : Hid (Below w.heap.size w (w.alloc (.cells #[.int .i64 c, .int .i64 v, .int .i64 x, .slice a n cap, .bool s] 51))) := (Below.refl _ _).alloc (Nat.le_refl _) _
  have HG : Hid ((w.alloc (.cells #[.int .i64 c, .int .i64 v, .int .i64 x, .slice a n cap, .bool s] 51)).heap[w.heap.size]? = some (.cells #[.int .i64 c, .int .i64 v, .int .i64 x, .slice a n cap, .bool s] 51)) := get_new rfl
  clear h
  obtain ⟨y, hy⟩ : ∃ y : Int, y = (if fopB c v x n f = true then (x - n) % 256 else 0) := ⟨_, rfl⟩
  have HSP : Hid (∀ (a : Option Addr) (cap : Nat) (W : World), Txt W a n f → Calls Try.prog 38 #[.agg #[.int .i64 c, .int .i64 v, .int .i64 x, .slice a n cap, .bool s]] W fun e w' => e = .returned (.int .i64 y) ∧ Below W.heap.size W w') := by
    intro a cap W h
    have := specFopFirst_any c v x a n cap f s W hn h
    rw [← hy] at this
    exact this
  have HIM : Hid (∀ (a : Option Addr) (cap : Nat) (W : World), Txt W a n f → Calls Try.prog 39 #[.agg #[.int .i64 c, .int .i64 v, .int .i64 x, .slice a n cap, .bool s]] W fun e w' => e = .returned (.int .i64 y) ∧ Below W.heap.size W w') := by
    intro a cap W h
    have := implFopFirst_any c v x a n cap f s W hn h
    rw [← hy] at this
    exact this
  clear hy
  go_enter Try.func10, Try.ntmps10
  go_wp2_with fail
  refine (szFop_any c v x a n cap f s _ hn HT.out).mono ?_
  rintro e w1 ⟨r, hr, rfl, hb1⟩
  have HT1 : Hid (Txt w1 a n f) := HT.out.below hb1
  have HB1 : Hid (Below w.heap.size w w1) := HB0.out.trans (hb1.mono HB0.out.size)
  have HG1 : Hid (w1.heap[w.heap.size]? = some (.cells #[.int .i64 c, .int .i64 v, .int .i64 x, .slice a n cap, .bool s] 51)) := get_below hb1 HG.out (size_of_get HG.out)
  clear hb1
  have HR : Hid _ := hr
  clear hr
  by_cases h0 : r < 0
  · go_wp2_with fail
    go_ret
    exact ⟨rfl, HB1.out⟩
  obtain ⟨hm, _⟩ := HR.out (by omega)
  obtain ⟨k0, k1, k2, k3, k4⟩ := cells5_of HG1.out
  have hz : w.heap.size < w1.heap.size := size_of_get HG1.out
  go_wp2_with fail
  refine (toFop_any c v x a n cap f s _ hm HT1.out).mono ?_
  rintro e w2 ⟨b2, hg2, rfl, ht2, hb2⟩
  clear k0 k1 k2 k3 k4 hz
  have HT2 : Hid (Txt w2 a n f) := HT1.out.below hb2
  have HB2 : Hid (Below w.heap.size w w2) := HB1.out.trans (hb2.mono HB1.out.size)
  have HG2 : Hid (w2.heap[w.heap.size]? = some (.cells #[.int .i64 c, .int .i64 v, .int .i64 x, .slice a n cap, .bool s] 51)) := get_below hb2 HG1.out (size_of_get HG1.out)
  have HF2 : Hid _ := ht2
  clear hb2 ht2
  go_wp2_with fail
  refine (HSP.out _ _ _ HF2.out).mono ?_
  rintro e w3 ⟨rfl, hb3⟩
  have HT3 : Hid (Txt w3 a n f) := HT2.out.below hb3
  have HB3 : Hid (Below w.heap.size w w3) := HB2.out.trans (hb3.mono HB2.out.size)
  have HG3 : Hid (w3.heap[w.heap.size]? = some (.cells #[.int .i64 c, .int .i64 v, .int .i64 x, .slice a n cap, .bool s] 51)) := get_below hb3 HG2.out (size_of_get HG2.out)
  clear hb3
  obtain ⟨k0, k1, k2, k3, k4⟩ := cells5_of HG3.out
  have hz : w.heap.size < w3.heap.size := size_of_get HG3.out
  go_wp2_with fail
  refine (toFop_any c v x a n cap f s _ hm HT3.out).mono ?_
  rintro e w4 ⟨b4, hg4, rfl, ht4, hb4⟩
  clear k0 k1 k2 k3 k4 hz
  have HT4 : Hid (Txt w4 a n f) := HT3.out.below hb4
  have HB4 : Hid (Below w.heap.size w w4) := HB3.out.trans (hb4.mono HB3.out.size)
  have HG4 : Hid (w4.heap[w.heap.size]? = some (.cells #[.int .i64 c, .int .i64 v, .int .i64 x, .slice a n cap, .bool s] 51)) := get_below hb4 HG3.out (size_of_get HG3.out)
  clear hb4
  have HF4 : Hid (Txt (w4.alloc (.cells #[.int .i64 c, .int .i64 v, .int .i64 x, .slice (some ⟨b4, 0, none⟩) n n, .bool s] 54)) (some ⟨b4, 0, none⟩) n f) := Txt.alloc ht4 _
  clear ht4
  have HB4' : Hid (Below w.heap.size w (w4.alloc (.cells #[.int .i64 c, .int .i64 v, .int .i64 x, .slice (some ⟨b4, 0, none⟩) n n, .bool s] 54))) := HB4.out.alloc HB4.out.size _
  have HT4' : Hid (Txt (w4.alloc (.cells #[.int .i64 c, .int .i64 v, .int .i64 x, .slice (some ⟨b4, 0, none⟩) n n, .bool s] 54)) a n f) := HT4.out.alloc _
  have HG4' : Hid ((w4.alloc (.cells #[.int .i64 c, .int .i64 v, .int .i64 x, .slice (some ⟨b4, 0, none⟩) n n, .bool s] 54)).heap[w.heap.size]? = some (.cells #[.int .i64 c, .int .i64 v, .int .i64 x, .slice a n cap, .bool s] 51)) := get_alloc HG4.out (size_of_get HG4.out)
  have HX4 : Hid ((w4.alloc (.cells #[.int .i64 c, .int .i64 v, .int .i64 x, .slice (some ⟨b4, 0, none⟩) n n, .bool s] 54)).heap[w4.heap.size]? = some (.cells #[.int .i64 c, .int .i64 v, .int .i64 x, .slice (some ⟨b4, 0, none⟩) n n, .bool s] 54)) := get_new rfl
  go_wp2_with fail
  generalize (w4.alloc (.cells #[.int .i64 c, .int .i64 v, .int .i64 x, .slice (some ⟨b4, 0, none⟩) n n, .bool s] 54)) = w5 at *
  refine (HIM.out _ _ _ HF4.out).mono ?_
  rintro e w6 ⟨rfl, hb6⟩
  have HT6 : Hid (Txt w6 a n f) := HT4'.out.below hb6
  have HF6 : Hid (Txt w6 (some ⟨b4, 0, none⟩) n f) := HF4.out.below hb6
  have HB6 : Hid (Below w.heap.size w w6) := HB4'.out.trans (hb6.mono HB4'.out.size)
  have HG6 : w6.heap[w.heap.size]? = some (.cells #[.int .i64 c, .int .i64 v, .int .i64 x, .slice a n cap, .bool s] 51) := get_below hb6 HG4'.out (size_of_get HG4'.out)
  have HX6 : w6.heap[w4.heap.size]? = some (.cells #[.int .i64 c, .int .i64 v, .int .i64 x, .slice (some ⟨b4, 0, none⟩) n n, .bool s] 54) := get_below hb6 HX4.out (size_of_get HX4.out)
  clear hb6
  obtain ⟨k0, k1, k2, k3, k4⟩ := cells5_of HG6
  obtain ⟨j0, j1, j2, j3, j4⟩ := cells5_of HX6
  go_wp2_with fail
  have HD : Below w6.heap.size w6 w6.drew ∧ w6.drew.cell? ⟨w.heap.size, 0, none⟩ = some (.int .i64 c) ∧ w6.drew.cell? ⟨w.heap.size, 1, none⟩ = some (.int .i64 v) ∧ w6.drew.cell? ⟨w.heap.size, 2, none⟩ = some (.int .i64 x) ∧ w6.drew.cell? ⟨w.heap.size, 3, none⟩ = some (.slice a n cap) ∧ w6.drew.cell? ⟨w.heap.size, 4, none⟩ = some (.bool s) ∧ w6.drew.cell? ⟨w4.heap.size, 0, none⟩ = some (.int .i64 c) ∧ w6.drew.cell? ⟨w4.heap.size, 1, none⟩ = some (.int .i64 v) ∧ w6.drew.cell? ⟨w4.heap.size, 2, none⟩ = some (.int .i64 x) ∧ w6.drew.cell? ⟨w4.heap.size, 3, none⟩ = some (.slice (some ⟨b4, 0, none⟩) n n) ∧ w6.drew.cell? ⟨w4.heap.size, 4, none⟩ = some (.bool s) := ⟨(Below.refl _ _).drew, k0, k1, k2, k3, k4, j0, j1, j2, j3, j4⟩
  clear k0 k1 k2 k3 k4 j0 j1 j2 j3 j4
  go_region_held2 (fun W => Below w6.heap.size w6 W ∧ W.cell? ⟨w.heap.size, 0, none⟩ = some (.int .i64 c) ∧ W.cell? ⟨w.heap.size, 1, none⟩ = some (.int .i64 v) ∧ W.cell? ⟨w.heap.size, 2, none⟩ = some (.int .i64 x) ∧ W.cell? ⟨w.heap.size, 3, none⟩ = some (.slice a n cap) ∧ W.cell? ⟨w.heap.size, 4, none⟩ = some (.bool s) ∧ W.cell? ⟨w4.heap.size, 0, none⟩ = some (.int .i64 c) ∧ W.cell? ⟨w4.heap.size, 1, none⟩ = some (.int .i64 v) ∧ W.cell? ⟨w4.heap.size, 2, none⟩ = some (.int .i64 x) ∧ W.cell? ⟨w4.heap.size, 3, none⟩ = some (.slice (some ⟨b4, 0, none⟩) n n) ∧ W.cell? ⟨w4.heap.size, 4, none⟩ = some (.bool s)) (first | with_reducible assumption) ((first | (go_at_call 35; refine (toFop_any c v x a n cap f s _ hm (HT6.out.below (show Below w6.heap.size w6 _ from (Below.refl _ _).drew))).mono ?_; rintro e w8 ⟨b8, hg8, rfl, ht8, hb8⟩; have HK := keepC10 (by with_reducible assumption) hb8; have HT8 : Hid _ := ht8; clear ht8 hb8) | (go_at_call 37; refine (eqFop_any c v x _ _ n n n f s _ hn (HF6.out.below HK.1) HT8.out).mono ?_; rintro e w9 ⟨rfl, hb9⟩; have HK9 := keepC10 (by with_reducible assumption) hb9; clear hb9)))
  go_wp2_with fail
  go_ret
  exact ⟨rfl, HB6.out.trans (HK9.1.mono HB6.out.size)⟩
theorem FnExactFopFirst_own : ownKnob Try.prog.godebug = none := by kernel_rfl
theorem FnExactFopFirst_laidOut : laidOutB Try.prog = true := by kernel_rfl
set_option maxRecDepth 100000 in
theorem FnExactFopFirst_lifted (os : Os) (started : os.Started) (H : Type) (enc : TypeId × Value → H) :
    ReturnsInHanded {} Try.checked os 10 .any (Rows.fnExactFopFirstSpec.pre6 enc Try.prog Try.f10 Rows.fnExactFopFirstRow.domain false) (Rows.fnExactFopFirstSpec.post enc Try.prog Try.f10 false true false false) := by
  refine returnsInHanded_of_change (C := Try.checked) FnExactFopFirst_own started (by kernel_rfl) Try.func10
    (ChangeSpec.witness6 (enc := enc) (C := Try.checked) false ⟨#[], #[.agg #[.int .i64 0, .int .i64 0, .int .i64 0, .slice none 0 0, .bool false]], []⟩ 8 (by kernel_rfl) (by kernel_rfl) (by kernel_rfl) (by kernel_rfl)) ?_
  intro W base args ds gs before hval0 hW hcnd _
  have hval : ∀ (j : Nat) t v, Try.f10.params[j]? = some t → args[j]? = some v → Value.okWide Try.prog W .any base t v := hval0
  have hW' := hW
  obtain ⟨p, q, hA0, hV, rfl, hfz, hnd⟩ := hW
  have hA : DataW.TrodAll enc Try.prog W 0 (fun _ => true) true Try.f10.params.toList args.toList ds p := hA0
  rw [Try.params10] at hA hval
  obtain ⟨v0, vs0, d0, ds0, p0, q0, hargs, rfl, rfl, h0, r0⟩ := trodAll_cons hA
  obtain ⟨rfl, rfl, rfl⟩ := trodAll_nil r0
  obtain rfl : args = #[v0] := by cases args; simp_all
  obtain ⟨rfl, rfl⟩ := trodVars_none hV
  have k0 := h0
  have lt0 : ∀ x ∈ p0, x.block < W.heap.size := by obtain ⟨m, hm⟩ := k0; exact DataW.trod_lt m _ _ _ hm
  obtain ⟨c0, u0, x0, a0, n0, cap0, f0, s0, rfl, w0, t0⟩ := open_fop (hval 0 51 v0 rfl rfl) h0
  clear hA0 hval0
  refine (FnExactFopFirst_walk c0 u0 x0 a0 n0 cap0 f0 s0 W w0 t0).mono fun e W' ⟨he, bel⟩ => ?_
  subst he
  exact ⟨_, rfl, _, _, _, [], _, [], hW', trodAll_mk1 (shut_bool Try.underlying4 _), (trodAll_cons_mk (Below.trod FnExactFopFirst_laidOut (by kernel_rfl) (of_decide_eq_true (by kernel_rfl)) k0 bel lt0) trodAll_mk0), rfl, bel.frame _, fun h => by cases h⟩
theorem FnExactFopFirst_holds : Rows.FnExactFopFirstSaid :=
  OpenClaim.holds_of_wide 10 Try.f10 rfl rfl rfl rfl rfl rfl rfl ⟨rfl, rfl, rfl, rfl, rfl⟩ rfl rfl rfl rfl rfl (by kernel_rfl) Try.func10 (by kernel_rfl)
    (of_decide_eq_true (by kernel_rfl)) (by unfold Func.isWrapper; first | (rw [if_pos (by decide +kernel)]; kernel_rfl) | (rw [if_neg (by decide +kernel)]; exact ⟨rfl, rfl⟩))
    (fun os started H enc _ => FnExactFopFirst_lifted os started H enc)
#print axioms FnExactFopFirst_holds
end Go.Proofs.Yteeneiogghldgaa
