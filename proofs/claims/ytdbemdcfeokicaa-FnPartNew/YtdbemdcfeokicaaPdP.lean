/- A row of ops of the call's own (some ints); the draw of a program. -/
import Derived.Test.YtdbemdcfeokicaaPdO
import Derived.Test.YtdbemdcfeokicaaCpOp
import Derived.Test.YtdbemdcfeokicaaOwn
namespace Go.Proofs.Ytdbemdcfeokicaa
open Go.ChangeShapes Go.WideShapes Go.ChangeAt Go.RowKit
set_option linter.unusedVariables false

/-- n ops at the block b, of the call's own: some ints. -/
def OpR (w : World) (base b n cap : Nat) : Prop := ∃ cur : Array Value, base ≤ b ∧ w.heap[b]? = some (.cells cur 146) ∧ n ≤ cap ∧ cap ≤ maxLen ∧ cur.size = cap * 3 ∧ ∀ q, q < n * 3 → ∃ z : Int, cur[q]? = some (.int .i64 z)
theorem OpR.new (w : World) {base : Nat} (h : base ≤ w.heap.size) : OpR (w.alloc (.cells #[] 146)) base w.heap.size 0 0 :=
  ⟨#[], h, get_new rfl, Nat.le_refl _, by unfold maxLen; omega, rfl, fun q hq => by omega⟩
theorem OpR.lt {w : World} {base b n cap : Nat} (h : OpR w base b n cap) : base ≤ b ∧ b < w.heap.size := by
  obtain ⟨cur, h1, h2, _⟩ := h
  exact ⟨h1, size_of_get h2⟩
theorem OpR.only {w w' : World} {base b n cap g : Nat} (h : OpR w base b n cap) (k : Only g w w') (hg : g < base) : OpR w' base b n cap := by
  obtain ⟨cur, h1, h2, h3⟩ := h
  exact ⟨cur, h1, get_only k h2 (by omega), h3⟩
theorem OpR.alloc {w : World} {base b n cap : Nat} (h : OpR w base b n cap) (o : Obj) : OpR (w.alloc o) base b n cap := by
  obtain ⟨cur, h1, h2, h3⟩ := h
  exact ⟨cur, h1, get_allocS h2, h3⟩
theorem OpR.set {w : World} {base b n cap j : Nat} {z : Int} (h : OpR w base b n cap) (hj : j < n * 3) : OpR (w.setCell ⟨b, j, none⟩ (.int .i64 z)) base b n cap := by
  obtain ⟨cur, h1, h2, h3, h4, h5, h6⟩ := h
  refine ⟨cur.setIfInBounds j (.int .i64 z), h1, get_set h2 rfl, h3, h4, by simpa using h5, fun q hq => ?_⟩
  by_cases e : q = j
  · subst e
    have hlt : q < cur.size := by rw [h5]; omega
    exact ⟨z, by simp [hlt]⟩
  · obtain ⟨y, hy⟩ := h6 q hq
    exact ⟨y, by rw [Array.getElem?_setIfInBounds_ne (fun x => e x.symm)]; exact hy⟩
theorem OpR.cell {w : World} {base b n cap q : Nat} (h : OpR w base b n cap) (hq : q < n * 3) : ∃ z : Int, w.cell? ⟨b, q, none⟩ = some (.int .i64 z) := by
  obtain ⟨cur, h1, h2, h3, h4, h5, h6⟩ := h
  obtain ⟨z, hz⟩ := h6 q hq
  exact ⟨z, cell_get h2 hz⟩
theorem OpR.free {w : World} {base b n cap : Nat} (h : OpR w base b n cap) : Free w b := by
  obtain ⟨cur, h1, h2, _⟩ := h
  exact Free.of_get h2
theorem OpR.ops {w : World} {base b n cap : Nat} (h : OpR w base b n cap) : ∃ f0 f1 f2 : Nat → Int, OpS w (some ⟨b, 0, none⟩) n f0 f1 f2 := by
  have hlt := h.lt
  refine ⟨fun i => match w.cell? ⟨b, i * 3, none⟩ with | some (.int .i64 z) => z | _ => 0, fun i => match w.cell? ⟨b, i * 3 + 1, none⟩ with | some (.int .i64 z) => z | _ => 0, fun i => match w.cell? ⟨b, i * 3 + 2, none⟩ with | some (.int .i64 z) => z | _ => 0, .inr ⟨b, 0, rfl, hlt.2, fun i hi => ?_⟩⟩
  obtain ⟨z0, h0⟩ := h.cell (q := i * 3) (by omega)
  obtain ⟨z1, h1⟩ := h.cell (q := i * 3 + 1) (by omega)
  obtain ⟨z2, h2⟩ := h.cell (q := i * 3 + 2) (by omega)
  simp only [Nat.zero_add, h0, h1, h2]
  exact ⟨trivial, trivial, trivial⟩
theorem OpR.append {w : World} {base b n cap s : Nat} {d a c : Int} (hn : n ≤ 4194303) (h : OpR w base b n cap) (hs : w.heap[s]? = some (.cells #[.int .i64 d, .int .i64 a, .int .i64 c] 146)) :
    ∃ b' cap' w', (Builtin.append_ #[50, 50] 50 #[.slice (some ⟨b, 0, none⟩) n cap, .slice (some ⟨s, 0, none⟩) 1 1]).run Try.prog w = .ok (.slice (some ⟨b', 0, none⟩) (n + 1) cap') w' ∧ OpR w' base b' (n + 1) cap' ∧ w.grownBy w' (some b) := by
  obtain ⟨i0, hi, hz0, hz1, hz2⟩ := cinfoOp
  have hbt : (n + 1) * i0.bytes ≤ 140737488355328 := by
    have := Nat.mul_le_mul (show n + 1 ≤ 4194304 by omega) hz2
    omega
  obtain ⟨hb1, hb2⟩ := h.lt
  obtain ⟨cur, h1, h2, h3, h4, h5, h6⟩ := h
  have hown : w.ownsRow base 146 3 (.slice (some ⟨b, 0, none⟩) n cap) n (cur.toList.take (n * 3)) := ⟨by simp [h5]; omega, .inr ⟨b, cap, cur, rfl, h1, h2, h3, h4, h5, rfl⟩⟩
  have hnews : ∀ j u, ([.int .i64 d, .int .i64 a, .int .i64 c] : List Value)[j]? = some u → w.cell? ((⟨s, 0, none⟩ : Addr).add j) = some u := by
    intro j u hj
    have hadd : (⟨s, 0, none⟩ : Addr).add j = ⟨s, j, none⟩ := by unfold Addr.add; split <;> simp_all
    rw [hadd]
    exact cell_get hs (by simpa using hj)
  have hone : ∀ u ∈ ([.int .i64 d, .int .i64 a, .int .i64 c] : List Value), u.oneCell' = true := by
    intro u hu
    simp at hu
    rcases hu with rfl | rfl | rfl <;> rfl
  obtain ⟨v', w', hr, ho, hg, hnil⟩ := run_append_own (P := Try.prog) w base 50 50 146 i0 (.agg #[.int .i64 0, .int .i64 0, .int .i64 0]) 3 i0.bytes Try.underlying50 hi hz0 hz1 rfl rfl (by decide) (.slice (some ⟨b, 0, none⟩) n cap) n _ hown ⟨s, 0, none⟩ 1 1 [.int .i64 d, .int .i64 a, .int .i64 c] rfl hnews hone (by unfold maxLen; omega) hbt (by omega)
  obtain ⟨hl, hr2⟩ := ho
  rcases hr2 with ⟨_, e⟩ | ⟨b', cap', cur', rfl, k1, k2, k3, k4, k5, k6⟩
  · omega
  refine ⟨b', cap', w', hr, ⟨cur', k1, k2, k3, k4, k5, fun q hq => ?_⟩, hg⟩
  have e : cur'.toList[q]? = (cur.toList.take (n * 3) ++ [.int .i64 d, .int .i64 a, .int .i64 c])[q]? := by
    rw [← k6, List.getElem?_take_of_lt hq]
  have e2 : cur'[q]? = cur'.toList[q]? := by simp
  rw [e2, e]
  have hlen : (cur.toList.take (n * 3)).length = n * 3 := by simp [h5]; omega
  rcases Nat.lt_or_ge q (n * 3) with hq2 | hq2
  · rw [List.getElem?_append_left (by omega), List.getElem?_take_of_lt hq2]
    obtain ⟨z, hz⟩ := h6 q hq2
    exact ⟨z, by simpa using hz⟩
  · rw [List.getElem?_append_right (by omega), hlen]
    have hc : q - n * 3 = 0 ∨ q - n * 3 = 1 ∨ q - n * 3 = 2 := by omega
    rcases hc with e | e | e <;> rw [e]
    · exact ⟨d, rfl⟩
    · exact ⟨a, rfl⟩
    · exact ⟨c, rfl⟩
theorem l15Op_anyI (N g : Nat) (count : Int) (w : World) (hN : N ≤ 500000) (hc1 : 1 ≤ count) (hc2 : count ≤ 16) (hr : Rd N w g) :
    Calls Try.prog 161 #[.pointer (some ⟨g, 0, none⟩), .int .i64 count] w fun e w' => ∃ d a b : Int, e = .returned (.agg #[.int .i64 d, .int .i64 a, .int .i64 b]) ∧ Only g w w' ∧ Rd (N + 5) w' g := by
  obtain ⟨m, rfl⟩ := Int.eq_ofNat_of_zero_le (show 0 ≤ count by omega)
  exact l15Op_any N g m w hN (by omega) (by omega) hr
theorem only_grownR {g b : Nat} {w wr w' : World} (h : Only g w wr) (hg : wr.grownBy w' (some b)) (hb : w.heap.size ≤ b) : Only g w w' :=
  only_grown h hg fun k e => by cases e; exact hb
theorem rd_grown {N g b : Nat} {wr w' : World} (h : Rd N wr g) (hg : wr.grownBy w' (some b)) (hb : g < b) : Rd N w' g :=
  h.keep (w' := w') fun j hj => hg.block j (by have := h.lt; omega) (fun e => by cases e; omega)
set_option maxRecDepth 100000 in
set_option maxHeartbeats 2000000 in
theorem l15Prog_any (N g : Nat) (w : World) (hN : N ≤ 400000) (hr : Rd N w g) :
    Calls Try.prog 140 #[.pointer (some ⟨g, 0, none⟩)] w fun e w' => ∃ b n cap : Nat, e = .returned (.slice (some ⟨b, 0, none⟩) n cap) ∧ 1 ≤ n ∧ n ≤ 16 ∧ OpR w' w.heap.size b n cap ∧ Only g w w' ∧ Rd (N + 82) w' g := by
  have hg := hr.lt
  have HR : Hid _ := hr
  clear hr
  go_enter Try.func140, Try.ntmps140
  go_wp2_with fail
  refine (pickI N g _ _ (by omega) (by omega) (by omega) HR.out).mono ?_
  rintro e w1 ⟨v1, hv1, rfl, ho1, hr1⟩
  have HO1 : Hid (Only g w w1) := ho1
  have HR1 : Hid (Rd (N + 1) w1 g) := hr1
  clear ho1 hr1
  go_wp2_with fail
  refine (pickI (N + 1) g _ _ (by omega) (by omega) (by omega) HR1.out).mono ?_
  rintro e w2 ⟨v2, hv2, rfl, ho2, hr2⟩
  have HO2 : Hid (Only g w w2) := HO1.out.trans ho2
  have HR2 : Hid (Rd (N + 2) w2 g) := hr2
  have hz2 : w.heap.size ≤ w2.heap.size := HO2.out.size
  clear ho2 hr2 HO1 HR1 HR
  have HP : Hid (OpR (w2.alloc (.cells #[] 146)) w.heap.size w2.heap.size 0 0) := OpR.new _ hz2
  have HO : Hid (Only g w (w2.alloc (.cells #[] 146))) := HO2.out.alloc _
  have HRr : Hid (Rd (N + 2) (w2.alloc (.cells #[] 146)) g) := rdA HR2.out
  by_cases h0 : v2 = 0
  · subst h0
    go_wp2_with fail
    go_loopw [4, 5] (fun b c wr => ∃ (k p cap : Nat), k ≤ 16 ∧ c = .int .i64 (k : Nat) ∧ b = .slice (some ⟨p, 0, none⟩) k cap ∧ OpR wr w.heap.size p k cap ∧ Only g w wr ∧ Rd (N + 2 + 5 * k) wr g) (fun _ c _ => (16 - intOf c).toNat)
    case atStart => exact ⟨0, _, _, by omega, rfl, rfl, HP.out, HO.out, HRr.out⟩
    case round =>
      obtain ⟨k, p, cap, hk, rfl, rfl, hown, ho, hrd⟩ := hrel
      have HOwn : Hid (OpR wr w.heap.size p k cap) := hown
      have HOn : Hid (Only g w wr) := ho
      have HRd : Hid (Rd (N + 2 + 5 * k) wr g) := hrd
      have hsz := ho.size
      clear hown ho hrd
      by_cases hlt : k < 16
      · have hd : decide ((k : Int) < 16) = true := by simp; omega
        go_wp2_with fail
        refine (l15Op_anyI (N + 2 + 5 * k) g _ _ (by omega) (by omega) (by omega) HRd.out).mono ?_
        rintro e w3 ⟨d, a, c, rfl, ho3, hr3⟩
        have HOwn : Hid (OpR w3 w.heap.size p k cap) := HOwn.out.only ho3 hg
        have HOn : Hid (Only g w w3) := HOn.out.trans ho3
        have HRd : Hid (Rd (N + 2 + 5 * k + 5) w3 g) := hr3
        clear ho3 hr3
        obtain ⟨b', cap', w', hrun, hR', hgr⟩ := OpR.append (s := w3.heap.size) (d := d) (a := a) (c := c) (by omega) (HOwn.out.alloc (.cells #[.int .i64 d, .int .i64 a, .int .i64 c] 146)) (get_new rfl)
        have HRUN : Hid _ := hrun
        have HR' : Hid _ := hR'
        have HGr : Hid _ := hgr
        have hpb := HOwn.out.lt
        clear hrun hR' hgr
        go_wp2_with (at_builtin; refine wpList_plain rfl (fun K hK => wp_append (.tmp 18) (.tmp 22) 50 rfl rfl rfl HRUN.out (hK _ _ ?_)))
        refine ⟨⟨k + 1, b', cap', by omega, by simp, rfl, HR'.out, only_grownR (HOn.out.alloc _) HGr.out hpb.1, (rd_grown (rdA HRd.out) HGr.out (by omega)).mono (by omega)⟩, by simp [intOf]; omega⟩
      · have hd : decide ((k : Int) < 16) = false := by simp; omega
        go_wp2_with fail
        go_ret
        exact ⟨p, k, cap, rfl, by omega, by omega, HOwn.out, HOn.out, HRd.out.mono (by omega)⟩
  · have hne : ((v2 : Int) == 0) = false := by rw [beq_eq_false_iff_ne]; omega
    go_wp2_with fail
    go_loopw [4, 5] (fun b c wr => ∃ (k p cap : Nat), k ≤ (1 + v1) ∧ c = .int .i64 (k : Nat) ∧ b = .slice (some ⟨p, 0, none⟩) k cap ∧ OpR wr w.heap.size p k cap ∧ Only g w wr ∧ Rd (N + 2 + 5 * k) wr g) (fun _ c _ => ((1 + (v1 : Int)) - intOf c).toNat)
    case atStart => exact ⟨0, _, _, by omega, rfl, rfl, HP.out, HO.out, HRr.out⟩
    case round =>
      obtain ⟨k, p, cap, hk, rfl, rfl, hown, ho, hrd⟩ := hrel
      have HOwn : Hid (OpR wr w.heap.size p k cap) := hown
      have HOn : Hid (Only g w wr) := ho
      have HRd : Hid (Rd (N + 2 + 5 * k) wr g) := hrd
      have hsz := ho.size
      clear hown ho hrd
      by_cases hlt : k < (1 + v1)
      · have hd : decide ((k : Int) < (1 + (v1 : Int))) = true := by simp; omega
        go_wp2_with fail
        refine (l15Op_anyI (N + 2 + 5 * k) g _ _ (by omega) (by omega) (by omega) HRd.out).mono ?_
        rintro e w3 ⟨d, a, c, rfl, ho3, hr3⟩
        have HOwn : Hid (OpR w3 w.heap.size p k cap) := HOwn.out.only ho3 hg
        have HOn : Hid (Only g w w3) := HOn.out.trans ho3
        have HRd : Hid (Rd (N + 2 + 5 * k + 5) w3 g) := hr3
        clear ho3 hr3
        obtain ⟨b', cap', w', hrun, hR', hgr⟩ := OpR.append (s := w3.heap.size) (d := d) (a := a) (c := c) (by omega) (HOwn.out.alloc (.cells #[.int .i64 d, .int .i64 a, .int .i64 c] 146)) (get_new rfl)
        have HRUN : Hid _ := hrun
        have HR' : Hid _ := hR'
        have HGr : Hid _ := hgr
        have hpb := HOwn.out.lt
        clear hrun hR' hgr
        go_wp2_with (at_builtin; refine wpList_plain rfl (fun K hK => wp_append (.tmp 18) (.tmp 22) 50 rfl rfl rfl HRUN.out (hK _ _ ?_)))
        refine ⟨⟨k + 1, b', cap', by omega, by simp, rfl, HR'.out, only_grownR (HOn.out.alloc _) HGr.out hpb.1, (rd_grown (rdA HRd.out) HGr.out (by omega)).mono (by omega)⟩, by simp [intOf]; omega⟩
      · have hd : decide ((k : Int) < (1 + (v1 : Int))) = false := by simp; omega
        go_wp2_with fail
        go_ret
        exact ⟨p, k, cap, rfl, by omega, by omega, HOwn.out, HOn.out, HRd.out.mono (by omega)⟩
end Go.Proofs.Ytdbemdcfeokicaa
