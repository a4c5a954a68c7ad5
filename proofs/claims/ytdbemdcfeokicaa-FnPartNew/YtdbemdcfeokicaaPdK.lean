/- The draw of a program that may be none; some ints. -/
import Derived.Test.YtdbemdcfeokicaaPdP
namespace Go.Proofs.Ytdbemdcfeokicaa
open Go.ChangeShapes Go.WideShapes Go.ChangeAt Go.RowKit
set_option linter.unusedVariables false

def lenOf : Value → Nat | .slice _ n _ => n | _ => 0
theorem OpR.base {w : World} {base B b n cap : Nat} (h : OpR w base b n cap) (hB : B ≤ base) : OpR w B b n cap := by
  obtain ⟨cur, h1, h2⟩ := h
  exact ⟨cur, by omega, h2⟩
theorem OpR.frozen {w : World} {base b n cap : Nat} (h : OpR w base b n cap) : ∀ j, w.frozen? ⟨b, j, none⟩ = false := h.free
set_option maxRecDepth 100000 in
set_option maxHeartbeats 4000000 in
theorem DrawProgOk_any (a : Option Addr) (len cap : Nat) (zs : List Int) (w : World) (h : IsRow .u8 w a len cap zs) :
    Calls Try.prog 102 #[.slice a len cap] w fun e w' => ∃ b n cap : Nat, e = .returned (.slice (some ⟨b, 0, none⟩) n cap) ∧ n ≤ 17 ∧ OpR w' w.heap.size b n cap ∧ Below w.heap.size w w' := by
  have H : Hid _ := h
  clear h
  go_enter Try.func102, Try.ntmps102
  go_wp2_with fail
  refine (l1Open_any a len cap zs _ H.out).mono ?_
  rintro e w1 ⟨rfl, hb1, hr1⟩
  have HB1 : Hid (Below w.heap.size w w1) := hb1
  have HR1 : Hid (Rd 0 w1 w.heap.size) := hr1
  have hz1 : w.heap.size < w1.heap.size := hr1.lt
  clear hb1 hr1 H
  go_wp2_with fail
  refine (l15Prog_any 0 w.heap.size w1 (by omega) HR1.out).mono ?_
  rintro e w2 ⟨p, n, cp, rfl, hn1, hn2, hp2, ho2, hr2⟩
  have HO : Hid (Only w.heap.size w1 w2) := ho2
  have HP : Hid (OpR w2 w1.heap.size p n cp) := hp2
  have HR : Hid (Rd 82 w2 w.heap.size) := hr2
  have hpb := hp2.lt
  clear hp2 ho2 hr2 HR1
  go_wp2_with fail
  refine (pickI 82 w.heap.size _ _ (by omega) (by omega) (by omega) HR.out).mono ?_
  rintro e w3 ⟨k, hk, rfl, ho3, hr3⟩
  have HO : Hid (Only w.heap.size w1 w3) := HO.out.trans ho3
  have HP : Hid (OpR w3 w1.heap.size p n cp) := HP.out.only ho3 hz1
  have HR : Hid (Rd 83 w3 w.heap.size) := hr3
  clear ho3 hr3
  go_wp2_with fail
  refine (pickI 83 w.heap.size _ _ (by omega) (by omega) (by omega) HR.out).mono ?_
  rintro e w4 ⟨v, hv, rfl, ho4, hr4⟩
  have HO : Hid (Only w.heap.size w1 w4) := HO.out.trans ho4
  have HP : Hid (OpR w4 w1.heap.size p n cp) := HP.out.only ho4 hz1
  have HR : Hid (Rd 84 w4 w.heap.size) := hr4
  have hz4 : w1.heap.size ≤ w4.heap.size := HO.out.size
  clear ho4 hr4
  have hk' : k < n := by omega
  have hc : v = 0 ∨ v = 1 ∨ v = 2 ∨ v = 3 ∨ v = 4 ∨ 5 ≤ v := by omega
  rcases hc with rfl | rfl | rfl | rfl | rfl | hv5
  · have HI : Hid (Ints (w4.alloc (.cells (([0, 14] : List Int).map (Value.int .i64 ·)).toArray 3)) w4.heap.size [0, 14]) := Ints.new _
    have HRb : Hid (Rd 84 (w4.alloc (.cells (([0, 14] : List Int).map (Value.int .i64 ·)).toArray 3)) w.heap.size) := rdA HR.out
    go_wp2_with fail
    refine (one_lit 84 w.heap.size _ 2 _ [0, 14] _ rfl (by omega) (by omega) (by omega) HRb.out (by omega) HI.out).mono ?_
    rintro e w5 ⟨y, hy, rfl, ho5, hr5⟩
    clear hy
    have HO : Hid (Only w.heap.size w1 w5) := (HO.out.alloc _).trans ho5
    have HP : Hid (OpR w5 w1.heap.size p n cp) := (HP.out.alloc _).only ho5 hz1
    clear ho5 hr5
    obtain ⟨z, hz⟩ := HP.out.cell (q := k * 3) (by omega)
    have fz := HP.out.frozen
    go_wp2_with fail
    go_ret
    exact ⟨p, n, cp, rfl, by omega, (HP.out.set (by omega)).base (by omega), HB1.out.trans ((onlyS HO.out (by omega)).below (Nat.le_refl _) (by omega))⟩
  · have HI : Hid (Ints (w4.alloc (.cells (([-1, 8] : List Int).map (Value.int .i64 ·)).toArray 3)) w4.heap.size [-1, 8]) := Ints.new _
    have HRb : Hid (Rd 84 (w4.alloc (.cells (([-1, 8] : List Int).map (Value.int .i64 ·)).toArray 3)) w.heap.size) := rdA HR.out
    go_wp2_with fail
    refine (one_lit 84 w.heap.size _ 2 _ [-1, 8] _ rfl (by omega) (by omega) (by omega) HRb.out (by omega) HI.out).mono ?_
    rintro e w5 ⟨y, hy, rfl, ho5, hr5⟩
    clear hy
    have HO : Hid (Only w.heap.size w1 w5) := (HO.out.alloc _).trans ho5
    have HP : Hid (OpR w5 w1.heap.size p n cp) := (HP.out.alloc _).only ho5 hz1
    clear ho5 hr5
    obtain ⟨z, hz⟩ := HP.out.cell (q := k * 3 + 1) (by omega)
    have fz := HP.out.frozen
    go_wp2_with fail
    go_ret
    exact ⟨p, n, cp, rfl, by omega, (HP.out.set (by omega)).base (by omega), HB1.out.trans ((onlyS HO.out (by omega)).below (Nat.le_refl _) (by omega))⟩
  · have HI : Hid (Ints (w4.alloc (.cells (([-1, 10000, 9] : List Int).map (Value.int .i64 ·)).toArray 3)) w4.heap.size [-1, 10000, 9]) := Ints.new _
    have HRb : Hid (Rd 84 (w4.alloc (.cells (([-1, 10000, 9] : List Int).map (Value.int .i64 ·)).toArray 3)) w.heap.size) := rdA HR.out
    go_wp2_with fail
    refine (one_lit 84 w.heap.size _ 3 _ [-1, 10000, 9] _ rfl (by omega) (by omega) (by omega) HRb.out (by omega) HI.out).mono ?_
    rintro e w5 ⟨y, hy, rfl, ho5, hr5⟩
    clear hy
    have HO : Hid (Only w.heap.size w1 w5) := (HO.out.alloc _).trans ho5
    have HP : Hid (OpR w5 w1.heap.size p n cp) := (HP.out.alloc _).only ho5 hz1
    clear ho5 hr5
    obtain ⟨z, hz⟩ := HP.out.cell (q := k * 3 + 2) (by omega)
    have fz := HP.out.frozen
    go_wp2_with fail
    go_ret
    exact ⟨p, n, cp, rfl, by omega, (HP.out.set (by omega)).base (by omega), HB1.out.trans ((onlyS HO.out (by omega)).below (Nat.le_refl _) (by omega))⟩
  · go_wp2_with fail
    go_loopw [4] (fun b wr => ∃ (m q cap : Nat), m ≤ 17 ∧ b = .slice (some ⟨q, 0, none⟩) m cap ∧ OpR wr w1.heap.size q m cap ∧ Only w.heap.size w1 wr) (fun b _ => 17 - lenOf b)
    case atStart => exact ⟨n, p, cp, by omega, rfl, HP.out, HO.out⟩
    case round =>
      obtain ⟨m, q, cq, hm, rfl, hown, ho⟩ := hrel
      have HOwn : Hid (OpR wr w1.heap.size q m cq) := hown
      have HOn : Hid (Only w.heap.size w1 wr) := ho
      have hsz := ho.size
      clear hown ho
      by_cases hlt : m ≤ 16
      · have hd : decide ((m : Int) ≤ 16) = true := by simp; omega
        obtain ⟨b', cap', w', hrun, hR', hgr⟩ := OpR.append (s := wr.heap.size) (d := 11) (a := 0) (c := 0) (by omega) (HOwn.out.alloc (.cells #[.int .i64 11, .int .i64 0, .int .i64 0] 146)) (get_new rfl)
        have HRUN : Hid _ := hrun
        have HR' : Hid _ := hR'
        have HGr : Hid _ := hgr
        have hpq := HOwn.out.lt
        clear hrun hR' hgr
        go_wp2_with (at_builtin; refine wpList_plain rfl (fun K hK => wp_append (.tmp 48) (.tmp 50) 50 rfl rfl rfl HRUN.out (hK _ _ ?_)))
        refine ⟨⟨m + 1, b', cap', by omega, rfl, HR'.out, only_grownR (HOn.out.alloc _) HGr.out hpq.1⟩, by simp [lenOf]; omega⟩
      · have hd : decide ((m : Int) ≤ 16) = false := by simp; omega
        go_wp2_with fail
        go_ret
        exact ⟨q, m, cq, rfl, by omega, HOwn.out.base (by omega), HB1.out.trans (HOn.out.below (Nat.le_refl _) (by omega))⟩
  · go_wp2_with fail
    go_ret
    exact ⟨w4.heap.size, 0, 0, rfl, by omega, OpR.new _ (by omega), HB1.out.trans ((HO.out.alloc _).below (Nat.le_refl _) (by omega))⟩
  · have e0 : ((v : Int) == 0) = false := by rw [beq_eq_false_iff_ne]; omega
    have e1 : ((v : Int) == 1) = false := by rw [beq_eq_false_iff_ne]; omega
    have e2 : ((v : Int) == 2) = false := by rw [beq_eq_false_iff_ne]; omega
    have e3 : ((v : Int) == 3) = false := by rw [beq_eq_false_iff_ne]; omega
    have e4 : ((v : Int) == 4) = false := by rw [beq_eq_false_iff_ne]; omega
    go_wp2_with fail
    go_ret
    exact ⟨p, n, cp, rfl, by omega, HP.out.base (by omega), HB1.out.trans (HO.out.below (Nat.le_refl _) (by omega))⟩
set_option maxHeartbeats 1000000 in
theorem DrawPartNew_any (a : Option Addr) (len cap : Nat) (zs : List Int) (w : World) (h : IsRow .u8 w a len cap zs) :
    Calls Try.prog 32 #[.slice a len cap] w fun e w' => ∃ b n cap : Nat, e = .returned (.slice (some ⟨b, 0, none⟩) n cap) ∧ n ≤ 17 ∧ OpR w' w.heap.size b n cap ∧ Below w.heap.size w w' := by
  have H : Hid _ := h
  clear h
  go_enter Try.func32, Try.ntmps32
  go_wp2_with fail
  refine (DrawProgOk_any a len cap zs _ H.out).mono ?_
  rintro e w1 ⟨b, n, cp, rfl, hn, hp, hb⟩
  have HP : Hid _ := hp
  have HB : Hid _ := hb
  clear hp hb
  go_wp2_with fail
  go_ret
  exact ⟨b, n, cp, rfl, hn, HP.out, HB.out⟩
end Go.Proofs.Ytdbemdcfeokicaa
