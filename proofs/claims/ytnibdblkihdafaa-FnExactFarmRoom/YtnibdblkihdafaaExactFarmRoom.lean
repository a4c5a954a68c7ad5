/- Proved: laws.FnExactFarmRoom returns true at every Farm (impl.FarmRoom answers as spec.FarmRoom, every field) and leaves it as it was. No condition. -/
import Derived.Test.YtnibdblkihdafaaFaR
import Derived.Test.YtnibdblkihdafaaAgg
namespace Go.Proofs.Ytnibdblkihdafaa
open Go.ChangeShapes Go.WideShapes Go.ChangeAt Go.RowKit
open Go.ChangeMaps (open_string shut_string)
set_option linter.unusedVariables false

set_option maxHeartbeats 1000000 in
theorem two_farms (s wt ag : Bool) (c n : Int) (s' wt' ag' : Bool) (c' n' : Int) (w : World)
    (hs : ∀ W, Calls Try.prog 22 #[.agg #[.bool s, .bool wt, .bool ag, .int .i64 c, .int .i64 n]] W fun e w' => e = .returned (.agg #[.bool s', .bool wt', .bool ag', .int .i64 c', .int .i64 n']) ∧ Below W.heap.size W w')
    (hi : ∀ W, Calls Try.prog 23 #[.agg #[.bool s, .bool wt, .bool ag, .int .i64 c, .int .i64 n]] W fun e w' => e = .returned (.agg #[.bool s', .bool wt', .bool ag', .int .i64 c', .int .i64 n']) ∧ Below W.heap.size W w') :
    Calls Try.prog 6 #[.agg #[.bool s, .bool wt, .bool ag, .int .i64 c, .int .i64 n]] w fun e w' => e = .returned (.bool true) ∧ Below w.heap.size w w' := by
  have HS : Hid _ := hs
  have HI : Hid _ := hi
  clear hs hi
  have HB0 : Hid (∀ o, Below w.heap.size w (w.alloc o)) := fun o => (Below.refl _ _).alloc (Nat.le_refl _) o
  go_enter Try.func6, Try.ntmps6
  go_wp2_with fail
  refine (toFarm_any _ _ _ _ _ _).mono ?_
  rintro e w1 ⟨rfl, hb1⟩
  have HB1 : Hid (Below w.heap.size w w1) := (HB0.out _).trans (hb1.mono (by simp))
  have HC1 : Hid (Below (w.alloc (.cells #[.bool s, .bool wt, .bool ag, .int .i64 c, .int .i64 n] 31)).heap.size (w.alloc (.cells #[.bool s, .bool wt, .bool ag, .int .i64 c, .int .i64 n] 31)) w1) := hb1
  clear hb1
  go_wp2_with fail
  refine (HS.out _).mono ?_
  rintro e w2 ⟨rfl, hb2⟩
  have HB2 : Hid (Below w.heap.size w w2) := HB1.out.trans (hb2.mono HB1.out.size)
  have hC2 := HC1.out.trans (hb2.mono HC1.out.size)
  obtain ⟨hc2, hf2⟩ := bcell' hC2
  have hz2 : w.heap.size < w2.heap.size := by have := hC2.size; simp at this; omega
  clear hb2 hC2
  go_wp2_with fail
  refine (toFarm_any _ _ _ _ _ _).mono ?_
  rintro e w3 ⟨rfl, hb3⟩
  have HB3 : Hid (Below w.heap.size w w3) := (HB2.out.alloc HB2.out.size _).trans (hb3.mono (by have := HB2.out.size; simp; omega))
  have HD3 : Hid (Below (w2.alloc (.cells #[.bool s', .bool wt', .bool ag', .int .i64 c', .int .i64 n'] 33)).heap.size (w2.alloc (.cells #[.bool s', .bool wt', .bool ag', .int .i64 c', .int .i64 n'] 33)) w3) := hb3
  clear hb3 hc2 hf2
  go_wp2_with fail
  refine (HI.out _).mono ?_
  rintro e w4 ⟨rfl, hb4⟩
  have HB4 : Hid (Below w.heap.size w w4) := HB3.out.trans (hb4.mono HB3.out.size)
  have hD4 := HD3.out.trans (hb4.mono HD3.out.size)
  obtain ⟨hc4, hf4⟩ := bcell' hD4
  have hz4 : w2.heap.size < w4.heap.size := by have := hD4.size; simp at this; omega
  clear hb4 hD4
  go_wp2_with fail
  refine (eqFarm_same _ _ _ _ _ _).mono ?_
  rintro e w5 ⟨rfl, hb5⟩
  have HB5 : Hid (Below w.heap.size w w5) := (HB4.out.alloc HB4.out.size _).trans (hb5.mono (by have := HB4.out.size; simp; omega))
  clear hb5 hc4 hf4
  go_wp2_with fail
  go_ret
  exact ⟨rfl, HB5.out⟩

theorem FnExactFarmRoom_walk (s wt ag : Bool) (c n : Int) (w : World) (_h : True) :
    Calls Try.prog 6 #[.agg #[.bool s, .bool wt, .bool ag, .int .i64 c, .int .i64 n]] w fun e w' => e = .returned (.bool true) ∧ Below w.heap.size w w' := by
  cases h : faOk wt ag c n
  · exact two_farms s wt ag c n _ _ _ _ _ w (fun W => specFarmRoom_no s wt ag c n W h) (fun W => implFarmRoom_no s wt ag c n W h)
  · exact two_farms s wt ag c n _ _ _ _ _ w (fun W => specFarmRoom_yes s wt ag c n W h) (fun W => implFarmRoom_yes s wt ag c n W h)

theorem FnExactFarmRoom_own : ownKnob Try.prog.godebug = none := by kernel_rfl
theorem FnExactFarmRoom_laidOut : laidOutB Try.prog = true := by kernel_rfl
set_option maxRecDepth 100000 in
theorem FnExactFarmRoom_lifted (os : Os) (started : os.Started) (H : Type) (enc : TypeId × Value → H) :
    ReturnsInHanded {} Try.checked os 6 .any (Rows.fnExactFarmRoomSpec.pre6 enc Try.prog Try.f6 Rows.fnExactFarmRoomRow.domain false) (Rows.fnExactFarmRoomSpec.post enc Try.prog Try.f6 false true false false) := by
  refine returnsInHanded_of_change (C := Try.checked) FnExactFarmRoom_own started (by kernel_rfl) Try.func6
    (ChangeSpec.witness6 (enc := enc) (C := Try.checked) false ⟨#[], #[.agg #[.bool false, .bool false, .bool false, .int .i64 0, .int .i64 0]], []⟩ 8 (by kernel_rfl) (by kernel_rfl) (by kernel_rfl) (by kernel_rfl)) ?_
  intro W base args ds gs before hval0 hW hcnd _
  have hval : ∀ (j : Nat) t v, Try.f6.params[j]? = some t → args[j]? = some v → Value.okWide Try.prog W .any base t v := hval0
  have hW' := hW
  obtain ⟨p, q, hA0, hV, rfl, hfz, hnd⟩ := hW
  have hA : DataW.TrodAll enc Try.prog W 0 (fun _ => true) true Try.f6.params.toList args.toList ds p := hA0
  rw [Try.params6] at hA hval
  obtain ⟨v0, vs0, d0, ds0, p0, q0, hargs, rfl, rfl, h0, r0⟩ := trodAll_cons hA
  obtain ⟨rfl, rfl, rfl⟩ := trodAll_nil r0
  obtain rfl : args = #[v0] := by cases args; simp_all
  obtain ⟨rfl, rfl⟩ := trodVars_none hV
  have k0 := h0
  have lt0 : ∀ x ∈ p0, x.block < W.heap.size := by obtain ⟨m, hm⟩ := k0; exact DataW.trod_lt m _ _ _ hm
  obtain ⟨x0, y0, z0, c0, n0, rfl, w0⟩ := open_farm (hval 0 31 v0 rfl rfl) h0
  clear hA0 hval0
  refine (FnExactFarmRoom_walk x0 y0 z0 c0 n0 W w0).mono fun e W' ⟨he, bel⟩ => ?_
  subst he
  exact ⟨_, rfl, _, _, _, [], _, [], hW', trodAll_mk1 (shut_bool Try.underlying4 _), (trodAll_cons_mk (Below.trod FnExactFarmRoom_laidOut (by kernel_rfl) (of_decide_eq_true (by kernel_rfl)) k0 bel lt0) trodAll_mk0), rfl, bel.frame _, fun h => by cases h⟩
theorem FnExactFarmRoom_holds : Rows.FnExactFarmRoomSaid :=
  OpenClaim.holds_of_wide 6 Try.f6 rfl rfl rfl rfl rfl rfl rfl ⟨rfl, rfl, rfl, rfl, rfl⟩ rfl rfl rfl rfl rfl (by kernel_rfl) Try.func6 (by kernel_rfl)
    (of_decide_eq_true (by kernel_rfl)) (by unfold Func.isWrapper; first | (rw [if_pos (by decide +kernel)]; kernel_rfl) | (rw [if_neg (by decide +kernel)]; exact ⟨rfl, rfl⟩))
    (fun os started H enc _ => FnExactFarmRoom_lifted os started H enc)
#print axioms FnExactFarmRoom_holds
end Go.Proofs.Ytnibdblkihdafaa
