/- Proved: laws.FnRulesLet (P31): true at every pair of codes. -/
import Derived.Test.YtfienpoebndfpaaRbS
import Derived.Test.YtfienpoebndfpaaDrRl
import Derived.Test.YtfienpoebndfpaaRuX
namespace Go.Proofs.Ytfienpoebndfpaa
open Go.ChangeShapes Go.WideShapes Go.ChangeAt Go.RowKit
set_option linter.unusedVariables false
theorem rusB_congr {f0 f1 f2 f3 g0 g1 g2 g3 : Nat → Int} {n : Nat} (h : ∀ i, i < n → f0 i = g0 i ∧ f1 i = g1 i ∧ f2 i = g2 i ∧ f3 i = g3 i) : rusB f0 f1 f2 f3 n = rusB g0 g1 g2 g3 n := by
  induction n with
  | zero => rfl
  | succ n ih =>
    obtain ⟨h0, h1, h2, h3⟩ := h n (by omega)
    simp only [rusB, ih (fun i hi => h i (by omega)), h0, h1, h2, h3]
theorem orL_congr {f g : Nat → Bool} {n : Nat} (h : ∀ i, i < n → f i = g i) : orL f n = orL g n := by
  induction n with
  | zero => rfl
  | succ n ih => simp only [orL, ih (fun i hi => h i (by omega)), h n (by omega)]
theorem letB_more {f0 f1 f2 f3 : Nat → Int} {f4 f5 : Nat → Bool} {md c0 c2 c3 c4 : Int} {k m : Nat} (hk : k + 1 ≤ 12) (hr : rusB f0 f1 f2 f3 k = true) (ho : orL (itB f0 f1 f2 f3 f4 f5 md c0 c2 c3 c4) k = true) :
    letB (k + 1) (fun i => if i < k then f0 i else (m : Int) % 3) (fun i => if i < k then f1 i else 0) (fun i => if i < k then f2 i else 0) (fun i => if i < k then f3 i else 0) (fun i => if i < k then f4 i else true) (fun i => if i < k then f5 i else false) md c0 c2 c3 c4 = true := by
  unfold letB
  rw [orL_split]
  have h1 : rusB (fun i => if i < k then f0 i else (m : Int) % 3) (fun i => if i < k then f1 i else 0) (fun i => if i < k then f2 i else 0) (fun i => if i < k then f3 i else 0) k = true := by
    rw [← hr]; exact rusB_congr fun i hi => by simp [hi]
  have h2 : orL (itB (fun i => if i < k then f0 i else (m : Int) % 3) (fun i => if i < k then f1 i else 0) (fun i => if i < k then f2 i else 0) (fun i => if i < k then f3 i else 0) (fun i => if i < k then f4 i else true) (fun i => if i < k then f5 i else false) md c0 c2 c3 c4) k = true := by
    rw [← ho]; exact orL_congr fun i hi => by simp [itB, hi]
  have h3 : ruB ((m : Int) % 3) 0 0 0 = true := by
    simp [ruB, inB]; omega
  have hd : decide (((k + 1 : Nat) : Int) ≤ 12) = true := by simp; omega
  simp only [orL, h2, Bool.true_or, Bool.and_true, rulesB, rusB, h1, hd, Nat.lt_irrefl, if_false, h3]
set_option maxRecDepth 100000 in
set_option maxHeartbeats 8000000 in
theorem FnRulesLet_walk (a : Option Addr) (len cap : Nat) (zs : List Int) (a' : Option Addr) (len' cap' : Nat) (zs' : List Int) (w : World) (h : IsRow .u8 w a len cap zs) (h' : IsRow .u8 w a' len' cap' zs') :
    Calls Try.prog 8 #[.slice a len cap, .slice a' len' cap'] w fun e w' => e = .returned (.bool true) ∧ Below w.heap.size w w' := by
  by_cases hb1 : (1048576 : Int) < (len : Int)
  · clear h h'
    go_enter Try.func8, Try.ntmps8
    go_wp2_with fail
    go_ret
    exact ⟨rfl, Below.refl _ _⟩
  by_cases hb2 : (1048576 : Int) < (len' : Int)
  · clear h h'
    go_enter Try.func8, Try.ntmps8
    go_wp2_with fail
    go_ret
    exact ⟨rfl, Below.refl _ _⟩
  have H : Hid (IsRow .u8 w a len cap zs) := h
  clear h h'
  go_enter Try.func8, Try.ntmps8
  go_wp2_with fail
  refine (DrawRulesLet_any a len cap zs _ H.out).mono ?_
  rintro e w1 ⟨b, n, cp, md, c0, c1, c2, c3, c4, x, rfl, hn, hm0, hm2, hx, hru, hbw⟩
  obtain ⟨f0, f1, f2, f3, f4, f5, hrs⟩ := hru.rules
  have HB1 : Hid (Below w.heap.size w w1) := hbw
  have HT1 : Hid (RuleS w1 (some ⟨b, 0, none⟩) n f0 f1 f2 f3 f4 f5) := hrs
  have hblt : b < w1.heap.size := hru.lt.2
  clear hru hrs hbw H
  have hnm : n ≤ maxLen := by unfold maxLen; omega
  have HIM : Hid (∀ W, Below w1.heap.size w1 W → _) := fun W hb => implRulesLet_any (some ⟨b, 0, none⟩) n cp f0 f1 f2 f3 f4 f5 md c0 c1 c2 c3 c4 x W hnm (RuleS.below HT1.out hb)
  have HSP : Hid (∀ W, Below w1.heap.size w1 W → _) := fun W hb => specRulesLet_any (some ⟨b, 0, none⟩) n cp f0 f1 f2 f3 f4 f5 md c0 c1 c2 c3 c4 x W hnm (RuleS.below HT1.out hb)
  have HIO : Hid (∀ W, Below w1.heap.size w1 W → _) := fun W hb => implRulesOk_any (some ⟨b, 0, none⟩) n cp f0 f1 f2 f3 f4 f5 W hnm (RuleS.below HT1.out hb)
  have HSO : Hid (∀ W, Below w1.heap.size w1 W → _) := fun W hb => specRulesOk_any (some ⟨b, 0, none⟩) n cp f0 f1 f2 f3 f4 f5 W hnm (RuleS.below HT1.out hb)
  have HE : Hid (letB n f0 f1 f2 f3 f4 f5 md c0 c2 c3 c4 = (rulesB n f0 f1 f2 f3 && orL (itB f0 f1 f2 f3 f4 f5 md c0 c2 c3 c4) n)) := by
    show _ = _; rw [← orL_split]; rfl
  have HRB : Hid (rulesB n f0 f1 f2 f3 = true → n ≤ 12 ∧ rusB f0 f1 f2 f3 n = true) := fun e => by
    simp [rulesB] at e
    exact ⟨by omega, e.2⟩
  obtain ⟨G, hG⟩ : ∃ G, G = letB n f0 f1 f2 f3 f4 f5 md c0 c2 c3 c4 := ⟨_, rfl⟩
  obtain ⟨rb, hrb⟩ : ∃ rb, rb = rulesB n f0 f1 f2 f3 := ⟨_, rfl⟩
  rw [← hG] at HIM HSP HE
  rw [← hrb] at HIO HSO HE HRB
  clear hG hrb
  have HX : Hid ((w1.alloc (.cells #[.int .i64 c0, .int .i64 c1, .int .i64 c2, .int .i64 c3, .int .i64 c4, .string x] 52)).heap[w1.heap.size]? = some (.cells #[.int .i64 c0, .int .i64 c1, .int .i64 c2, .int .i64 c3, .int .i64 c4, .string x] 52)) := get_new rfl
  have HBc : Hid (Below w1.heap.size w1 (w1.alloc (.cells #[.int .i64 c0, .int .i64 c1, .int .i64 c2, .int .i64 c3, .int .i64 c4, .string x] 52))) := (Below.refl _ _).alloc (Nat.le_refl _) _
  go_wp2_with fail
  generalize w1.alloc (.cells #[.int .i64 c0, .int .i64 c1, .int .i64 c2, .int .i64 c3, .int .i64 c4, .string x] 52) = w2 at *
  have HX2 := HX
  have HB2 := HBc
  clear HX HBc
  refine Calls.mono (HIM.out _ HB2.out) ?_
  rintro e w3 ⟨rfl, hb⟩
  have HX3 : Hid (w3.heap[w1.heap.size]? = some (.cells #[.int .i64 c0, .int .i64 c1, .int .i64 c2, .int .i64 c3, .int .i64 c4, .string x] 52)) := get_below hb HX2.out (size_of_get HX2.out)
  have HB3 : Hid (Below w1.heap.size w1 w3) := HB2.out.trans (hb.mono HB2.out.size)
  clear hb HX2 HB2
  obtain ⟨y0, y1, y2, y3, y4, y5⟩ := cells6_of HX3.out
  go_wp2_with fail
  refine Calls.mono (HSP.out _ HB3.out) ?_
  rintro e w4 ⟨rfl, hb⟩
  have HX4 : Hid (w4.heap[w1.heap.size]? = some (.cells #[.int .i64 c0, .int .i64 c1, .int .i64 c2, .int .i64 c3, .int .i64 c4, .string x] 52)) := get_below hb HX3.out (size_of_get HX3.out)
  have HB4 : Hid (Below w1.heap.size w1 w4) := HB3.out.trans (hb.mono HB3.out.size)
  clear hb HX3 HB3 y0 y1 y2 y3 y4 y5
  go_wp2_with fail
  refine Calls.mono (HIO.out _ HB4.out) ?_
  rintro e w5 ⟨rfl, hb⟩
  have HX5 : Hid (w5.heap[w1.heap.size]? = some (.cells #[.int .i64 c0, .int .i64 c1, .int .i64 c2, .int .i64 c3, .int .i64 c4, .string x] 52)) := get_below hb HX4.out (size_of_get HX4.out)
  have HB5 : Hid (Below w1.heap.size w1 w5) := HB4.out.trans (hb.mono HB4.out.size)
  clear hb HX4 HB4
  go_wp2_with fail
  refine Calls.mono (HSO.out _ HB5.out) ?_
  rintro e w6 ⟨rfl, hb⟩
  have HX6 : Hid (w6.heap[w1.heap.size]? = some (.cells #[.int .i64 c0, .int .i64 c1, .int .i64 c2, .int .i64 c3, .int .i64 c4, .string x] 52)) := get_below hb HX5.out (size_of_get HX5.out)
  have HB6 : Hid (Below w1.heap.size w1 w6) := HB5.out.trans (hb.mono HB5.out.size)
  clear hb HX5 HB5
  go_wp2_with fail
  refine Calls.mono (HSO.out _ HB6.out) ?_
  rintro e w7 ⟨rfl, hb⟩
  have HX7 : Hid (w7.heap[w1.heap.size]? = some (.cells #[.int .i64 c0, .int .i64 c1, .int .i64 c2, .int .i64 c3, .int .i64 c4, .string x] 52)) := get_below hb HX6.out (size_of_get HX6.out)
  have HB7 : Hid (Below w1.heap.size w1 w7) := HB6.out.trans (hb.mono HB6.out.size)
  clear hb HX6 HB6
  cases rb
  · obtain ⟨y0, y1, y2, y3, y4, y5⟩ := cells6_of HX7.out
    go_wp2_with fail
    refine Calls.mono (HSP.out _ HB7.out) ?_
    rintro e w8 ⟨rfl, hb⟩
    have HX8 : Hid (w8.heap[w1.heap.size]? = some (.cells #[.int .i64 c0, .int .i64 c1, .int .i64 c2, .int .i64 c3, .int .i64 c4, .string x] 52)) := get_below hb HX7.out (size_of_get HX7.out)
    have HB8 : Hid (Below w1.heap.size w1 w8) := HB7.out.trans (hb.mono HB7.out.size)
    clear hb HX7 HB7 y0 y1 y2 y3 y4 y5
    go_wp2_with fail
    refine Calls.mono (HIO.out _ HB8.out) ?_
    rintro e w9 ⟨rfl, hb⟩
    have HX9 : Hid (w9.heap[w1.heap.size]? = some (.cells #[.int .i64 c0, .int .i64 c1, .int .i64 c2, .int .i64 c3, .int .i64 c4, .string x] 52)) := get_below hb HX8.out (size_of_get HX8.out)
    have HB9 : Hid (Below w1.heap.size w1 w9) := HB8.out.trans (hb.mono HB8.out.size)
    clear hb HX8 HB8
    go_wp2_with fail
    refine Calls.mono (HSO.out _ HB9.out) ?_
    rintro e w10 ⟨rfl, hb⟩
    have HX10 : Hid (w10.heap[w1.heap.size]? = some (.cells #[.int .i64 c0, .int .i64 c1, .int .i64 c2, .int .i64 c3, .int .i64 c4, .string x] 52)) := get_below hb HX9.out (size_of_get HX9.out)
    have HB10 : Hid (Below w1.heap.size w1 w10) := HB9.out.trans (hb.mono HB9.out.size)
    clear hb HX9 HB9
    go_wp2_with fail
    go_ret
    exact ⟨rfl, HB1.out.trans (HB10.out.mono HB1.out.size)⟩
  · obtain ⟨hn12, hru⟩ := HRB.out rfl
    have HRU : Hid _ := hru
    clear hru
    have HIT : Hid (∀ k, itB f0 f1 f2 f3 f4 f5 md c0 c2 c3 c4 k = (ofB (f0 k) (f1 k) (f2 k) (f3 k) c0 c2 c3 c4 && ((md == 0) && f4 k || (md == 1) && f5 k))) := fun k => rfl
    obtain ⟨it, hit⟩ : ∃ it, it = itB f0 f1 f2 f3 f4 f5 md c0 c2 c3 c4 := ⟨_, rfl⟩
    have HITE : Hid _ := hit
    rw [← hit] at HIT HE
    have HGE : G = orL it n := HE.out
    clear hit HE HIM HSP HIO HSO HRB
    subst HGE
    go_wp2_with fail
    go_loopw [9, 10] (fun d c wr => ∃ k : Nat, k ≤ n ∧ c = .int .i64 k ∧ d = .bool (orL it k) ∧ Hid (wr.heap[w1.heap.size]? = some (.cells #[.int .i64 c0, .int .i64 c1, .int .i64 c2, .int .i64 c3, .int .i64 c4, .string x] 52)) ∧ Hid (Below w1.heap.size w1 wr)) (fun _ c _ => n - (intOf c).toNat)
    case atStart => exact ⟨0, by omega, rfl, rfl, HX7, HB7⟩
    case round =>
      clear HX7 HB7
      obtain ⟨k, hk, rfl, rfl, HX, HB⟩ := hrel
      by_cases hlt : k < n
      · obtain ⟨q0, q1, q2, q3, q4, q5⟩ := rule_cells (RuleS.below HT1.out HB.out) hlt
        have hik0 : (0 : Int) ≤ (k : Int) := by omega
        have hik : (k : Int) < (n : Int) := by omega
        obtain ⟨y0, y1, y2, y3, y4, y5⟩ := cells6_of HX.out
        have hzx := size_of_get HX.out
        have hT := HIT.out k
        generalize f0 k = v0 at *
        generalize f1 k = v1 at *
        generalize f2 k = v2 at *
        generalize f3 k = v3 at *
        generalize f4 k = p at *
        generalize f5 k = s at *
        have HTK : Hid _ := hT
        clear hT
        have HBA : Hid (∀ o, Below w1.heap.size w1 (wr.alloc o)) := fun o => HB.out.alloc HB.out.size o
        have HXA : Hid (∀ o, (wr.alloc o).heap[w1.heap.size]? = some (.cells #[.int .i64 c0, .int .i64 c1, .int .i64 c2, .int .i64 c3, .int .i64 c4, .string x] 52)) := fun o => get_alloc HX.out hzx
        have hsplit : orL it k = true ∨ (orL it k = false ∧ ((v0 == c2) = false ∨ ((v0 == c2) = true ∧ ((v1 == c0) = false ∨ ((v1 == c0) = true ∧ ((v2 == c3) = false ∨ ((v2 == c3) = true ∧ ((v3 == c4) = false ∨ ((v3 == c4) = true ∧ True))))))))) := by
          cases orL it k <;> cases (v0 == c2) <;> cases (v1 == c0) <;> cases (v2 == c3) <;> cases (v3 == c4) <;> simp
        have FIN : ∀ (W : World) (z : Bool), orL it (k + 1) = z → Hid (W.heap[w1.heap.size]? = some (.cells #[.int .i64 c0, .int .i64 c1, .int .i64 c2, .int .i64 c3, .int .i64 c4, .string x] 52)) → Hid (Below w1.heap.size w1 W) → True := fun _ _ _ _ _ => trivial
        clear FIN
        obtain ⟨fd, hfd⟩ : ∃ fd, fd = orL it k := ⟨_, rfl⟩
        rw [← hfd] at hsplit ⊢
        have HFD : Hid _ := hfd
        clear hfd
        rcases hsplit with rfl | ⟨rfl, e0 | ⟨e0, e1 | ⟨e1, e2 | ⟨e2, e3 | ⟨e3, _⟩⟩⟩⟩⟩
        · have HZ : Hid (orL it (k + 1) = true) := by show _ = _; simp only [orL, ← HFD.out]; rfl
          go_wp2_with fail
          exact ⟨⟨k + 1, by omega, by go_num, by rw [HZ.out], HXA.out _, HBA.out _⟩, by simp [intOf]; omega⟩
        · have HZ : Hid (orL it (k + 1) = false) := by show _ = _; simp only [orL, ← HFD.out, HTK.out, ofB, e0]; rfl
          go_wp2_with fail
          exact ⟨⟨k + 1, by omega, by go_num, by rw [HZ.out], HXA.out _, HBA.out _⟩, by simp [intOf]; omega⟩
        · have HZ : Hid (orL it (k + 1) = false) := by show _ = _; simp only [orL, ← HFD.out, HTK.out, ofB, e0, e1]; rfl
          go_wp2_with fail
          exact ⟨⟨k + 1, by omega, by go_num, by rw [HZ.out], HXA.out _, HBA.out _⟩, by simp [intOf]; omega⟩
        · have HZ : Hid (orL it (k + 1) = false) := by show _ = _; simp only [orL, ← HFD.out, HTK.out, ofB, e0, e1, e2]; rfl
          go_wp2_with fail
          exact ⟨⟨k + 1, by omega, by go_num, by rw [HZ.out], HXA.out _, HBA.out _⟩, by simp [intOf]; omega⟩
        · have HZ : Hid (orL it (k + 1) = false) := by show _ = _; simp only [orL, ← HFD.out, HTK.out, ofB, e0, e1, e2, e3]; rfl
          go_wp2_with fail
          exact ⟨⟨k + 1, by omega, by go_num, by rw [HZ.out], HXA.out _, HBA.out _⟩, by simp [intOf]; omega⟩
        · cases m0 : (md == 0) <;> cases m1 : (md == 1) <;> cases p <;> cases s
          all_goals
            first
            | (have HZ : Hid (orL it (k + 1) = false) := (show orL it (k + 1) = false by simp only [orL, ← HFD.out, HTK.out, ofB, e0, e1, e2, e3, m0, m1]; rfl)
               go_wp2_with fail
               exact ⟨⟨k + 1, by omega, by go_num, by rw [HZ.out], HXA.out _, HBA.out _⟩, by simp [intOf]; omega⟩)
            | (have HZ : Hid (orL it (k + 1) = true) := (show orL it (k + 1) = true by simp only [orL, ← HFD.out, HTK.out, ofB, e0, e1, e2, e3, m0, m1]; rfl)
               go_wp2_with fail
               exact ⟨⟨k + 1, by omega, by go_num, by rw [HZ.out], HXA.out _, HBA.out _⟩, by simp [intOf]; omega⟩)
      · obtain rfl : k = n := by omega
        obtain ⟨y0, y1, y2, y3, y4, y5⟩ := cells6_of HX.out
        obtain ⟨fd, hfd⟩ : ∃ fd, fd = orL it k := ⟨_, rfl⟩
        rw [← hfd]
        have HFD : Hid _ := hfd
        clear hfd
        by_cases h12 : (12 : Int) ≤ (k : Int)
        · go_wp2_with fail
          go_ret
          exact ⟨rfl, HB1.out.trans (HB.out.mono HB1.out.size)⟩
        obtain ⟨va, wa, hr1, ho1, hg1⟩ := append_all (n := k) (cp := cp) (by omega) (RuleS.below HT1.out (HB.out.alloc HB.out.size (.cells #[] 60))) (get_new (w := wr) rfl)
        have hza : wr.heap.size < wa.heap.size := by have := hg1.size; simp at this; omega
        have hbwa : Below wr.heap.size wr wa := own_below ((Below.refl _ _).alloc (Nat.le_refl _) _) hg1 (by simp) (fun x e => by cases e; exact Nat.le_refl _)
        obtain ⟨vb, wb, hr2, ho2, hg2⟩ := append_one6 (s := wa.heap.size) (W := wa.alloc (.cells #[.int .i64 ((len' : Int) % 3), .int .i64 0, .int .i64 0, .int .i64 0, .bool true, .bool false] 60)) (by omega) (own_kept ho1 ((Below.refl _ _).alloc (Nat.le_refl _) _)) (by simp; omega) ((len' : Int) % 3) 0 0 0 true false (get_new rfl)
        have hbwb : Below wr.heap.size wr wb := by
          refine own_below (hbwa.alloc (Nat.le_of_lt hza) _) hg2 (by simp; omega) (fun y e => ?_)
          obtain ⟨_, _, _, h | ⟨g, _, h, hle, _⟩⟩ := own_slice ho1
          · rw [h] at e; cases e
          · rw [h] at e; cases e; exact hle
        obtain ⟨a2, cp2, hvb, hrs2⟩ := own_rules ho2
        subst hvb
        have HR1 : Hid _ := hr1
        have HR2 : Hid _ := hr2
        have HXb : Hid (wb.heap[w1.heap.size]? = some (.cells #[.int .i64 c0, .int .i64 c1, .int .i64 c2, .int .i64 c3, .int .i64 c4, .string x] 52)) := get_below hbwb HX.out (size_of_get HX.out)
        have HBb : Hid (Below w1.heap.size w1 wb) := HB.out.trans (hbwb.mono HB.out.size)
        have HRS2 : Hid _ := hrs2
        clear hr1 ho1 hg1 hr2 ho2 hg2 hrs2 hbwa hbwb y0 y1 y2 y3 y4 y5
        obtain ⟨y0, y1, y2, y3, y4, y5⟩ := cells6_of HXb.out
        cases fd
        · go_wp2_with (at_builtin; first | refine wpList_plain rfl (fun K hK => wp_append (.tmp 128) (.tmp 129) 30 rfl rfl rfl HR1.out (hK _ _ ?_)) | refine wpList_plain rfl (fun K hK => wp_append (.tmp 130) (.tmp 135) 30 rfl rfl rfl HR2.out (hK _ _ ?_)))
          go_ret
          exact ⟨rfl, HB1.out.trans (HBb.out.mono HB1.out.size)⟩
        · have HLM : Hid (letB (k + 1) (fun i => if i < k then f0 i else (len' : Int) % 3) (fun i => if i < k then f1 i else 0) (fun i => if i < k then f2 i else 0) (fun i => if i < k then f3 i else 0) (fun i => if i < k then f4 i else true) (fun i => if i < k then f5 i else false) md c0 c2 c3 c4 = true) := letB_more (by omega) HRU.out (by rw [← HITE.out]; exact HFD.out.symm)
          have HIL : Hid _ := implRulesLet_any a2 (k + 1) cp2 _ _ _ _ _ _ md c0 c1 c2 c3 c4 x wb (by unfold maxLen; omega) HRS2.out
          go_wp2_with (at_builtin; first | refine wpList_plain rfl (fun K hK => wp_append (.tmp 128) (.tmp 129) 30 rfl rfl rfl HR1.out (hK _ _ ?_)) | refine wpList_plain rfl (fun K hK => wp_append (.tmp 130) (.tmp 135) 30 rfl rfl rfl HR2.out (hK _ _ ?_)))
          refine Calls.mono HIL.out ?_
          rintro e w12 ⟨he, hb12⟩
          rw [HLM.out] at he
          subst he
          have HB12 : Hid (Below w1.heap.size w1 w12) := HBb.out.trans (hb12.mono HBb.out.size)
          clear hb12
          go_wp2_with fail
          go_ret
          exact ⟨rfl, HB1.out.trans (HB12.out.mono HB1.out.size)⟩
theorem FnRulesLet_own : ownKnob Try.prog.godebug = none := by kernel_rfl
theorem FnRulesLet_laidOut : laidOutB Try.prog = true := by kernel_rfl
set_option maxRecDepth 100000 in
theorem FnRulesLet_lifted (os : Os) (started : os.Started) (H : Type) (enc : TypeId × Value → H) :
    ReturnsInHanded {} Try.checked os 8 .any (Rows.fnRulesLetSpec.pre6 enc Try.prog Try.f8 Rows.fnRulesLetRow.domain false) (Rows.fnRulesLetSpec.post enc Try.prog Try.f8 false true false false) := by
  refine returnsInHanded_of_change (C := Try.checked) FnRulesLet_own started (by kernel_rfl) Try.func8
    (ChangeSpec.witness6 (enc := enc) (C := Try.checked) false ⟨#[], #[.slice none 0 0, .slice none 0 0], []⟩ 8 (by kernel_rfl) (by kernel_rfl) (by kernel_rfl) (by kernel_rfl)) ?_
  intro W base args ds gs before hval0 hW hcnd _
  have hval : ∀ (j : Nat) t v, Try.f8.params[j]? = some t → args[j]? = some v → Value.okWide Try.prog W .any base t v := hval0
  have hW' := hW
  obtain ⟨p, q, hA0, hV, rfl, hfz, hnd⟩ := hW
  have hA : DataW.TrodAll enc Try.prog W 0 (fun _ => true) true Try.f8.params.toList args.toList ds p := hA0
  rw [Try.params8] at hA hval
  obtain ⟨v0, vs0, d0, ds0, p0, q0, hargs, rfl, rfl, h0, r0⟩ := trodAll_cons hA
  obtain ⟨v1, vs1, d1, ds1, p1, q1, rfl, rfl, rfl, h1, r1⟩ := trodAll_cons r0
  obtain ⟨rfl, rfl, rfl⟩ := trodAll_nil r1
  obtain rfl : args = #[v0, v1] := by cases args; simp_all
  obtain ⟨rfl, rfl⟩ := trodVars_none hV
  obtain ⟨a0, len0, cap0, rfl⟩ := okWide_slice Try.underlying38 (hval 0 38 v0 rfl rfl)
  have k0 := h0
  have lt0 : ∀ x ∈ p0, x.block < W.heap.size := by obtain ⟨m, hm⟩ := k0; exact DataW.trod_lt m _ _ _ hm
  obtain ⟨z0, w0⟩ : ∃ zs, IsRow .u8 W a0 len0 cap0 zs := by
    obtain ⟨fuel, hf⟩ := h0
    rcases open_ints Try.underlying38 Try.underlying5 (by kernel_rfl) hf with ⟨hcs, _⟩ | ⟨x, l, c, zs, hcs, _, hl, hm, hz, _, hcell, hwz⟩
    · simp [Value.cells] at hcs
      obtain ⟨rfl, rfl, rfl⟩ := hcs
      exact ⟨[], .inl ⟨rfl, rfl, rfl, rfl⟩⟩
    · simp [Value.cells] at hcs
      obtain ⟨rfl, rfl, rfl⟩ := hcs
      exact ⟨zs, .inr ⟨_, rfl, hl, hm, by simpa using hz, hcell, hwz⟩⟩
  obtain ⟨a1, len1, cap1, rfl⟩ := okWide_slice Try.underlying38 (hval 1 38 v1 rfl rfl)
  have k1 := h1
  have lt1 : ∀ x ∈ p1, x.block < W.heap.size := by obtain ⟨m, hm⟩ := k1; exact DataW.trod_lt m _ _ _ hm
  obtain ⟨z1, w1⟩ : ∃ zs, IsRow .u8 W a1 len1 cap1 zs := by
    obtain ⟨fuel, hf⟩ := h1
    rcases open_ints Try.underlying38 Try.underlying5 (by kernel_rfl) hf with ⟨hcs, _⟩ | ⟨x, l, c, zs, hcs, _, hl, hm, hz, _, hcell, hwz⟩
    · simp [Value.cells] at hcs
      obtain ⟨rfl, rfl, rfl⟩ := hcs
      exact ⟨[], .inl ⟨rfl, rfl, rfl, rfl⟩⟩
    · simp [Value.cells] at hcs
      obtain ⟨rfl, rfl, rfl⟩ := hcs
      exact ⟨zs, .inr ⟨_, rfl, hl, hm, by simpa using hz, hcell, hwz⟩⟩
  clear hA0 hval0
  refine (FnRulesLet_walk a0 len0 cap0 z0 a1 len1 cap1 z1 W w0 w1).mono fun e W' ⟨he, bel⟩ => ?_
  subst he
  exact ⟨_, rfl, _, _, _, [], _, [], hW', trodAll_mk1 (shut_bool Try.underlying4 _), (trodAll_cons_mk (Below.trod FnRulesLet_laidOut (by kernel_rfl) (of_decide_eq_true (by kernel_rfl)) k0 bel lt0) (trodAll_cons_mk (Below.trod FnRulesLet_laidOut (by kernel_rfl) (of_decide_eq_true (by kernel_rfl)) k1 bel lt1) trodAll_mk0)), rfl, bel.frame _, fun h => by cases h⟩
theorem FnRulesLet_holds : Rows.FnRulesLetSaid :=
  OpenClaim.holds_of_wide 8 Try.f8 rfl rfl rfl rfl rfl rfl rfl ⟨rfl, rfl, rfl, rfl, rfl⟩ rfl rfl rfl rfl rfl (by kernel_rfl) Try.func8 (by kernel_rfl)
    (of_decide_eq_true (by kernel_rfl)) (by unfold Func.isWrapper; first | (rw [if_pos (by decide +kernel)]; kernel_rfl) | (rw [if_neg (by decide +kernel)]; exact ⟨rfl, rfl⟩))
    (fun os started H enc _ => FnRulesLet_lifted os started H enc)
#print axioms FnRulesLet_holds
end Go.Proofs.Ytfienpoebndfpaa
