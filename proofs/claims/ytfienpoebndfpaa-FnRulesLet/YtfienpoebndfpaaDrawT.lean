/- The contracts of spec.l1Open and spec.l15Text. -/
import Derived.Test.YtfienpoebndfpaaDrawP
import Derived.Laws.AppendOwn
import Derived.OwnWalk
namespace Go.Proofs.Ytfienpoebndfpaa
open Go.ChangeShapes Go.WideShapes Go.ChangeAt Go.RowKit
set_option linter.unusedVariables false

theorem Rd.new (w : World) (av : Option Addr) (len cap : Nat) (hl : len ≤ 2000)
    (hz : len = 0 ∨ ∃ b off, av = some ⟨b, off, none⟩ ∧ ∀ i, i < len → ∃ z : Nat, z < 256 ∧ w.cell? ⟨b, off + i, none⟩ = some (.int .u8 (z : Int))) :
    Rd 0 (w.alloc (.cells #[.slice av len cap, .int .i64 0] 154)) w.heap.size := by
  refine ⟨0, av, len, cap, Nat.le_refl _, hl, by rw [World.cell?_alloc_mark]; rfl, by rw [World.cell?_alloc_mark]; rfl, by rw [World.frozen?_alloc_mark]; rfl, ?_⟩
  rcases hz with hz | ⟨b, off, ha, hz⟩
  · exact .inl hz
  · rcases Nat.eq_zero_or_pos len with h0 | h0
    · exact .inl h0
    · obtain ⟨z0, _, hz0⟩ := hz 0 h0
      have hb : b < w.heap.size := block_lt_of_cell hz0
      refine .inr ⟨b, off, ha, hb, fun i hi => ?_⟩
      obtain ⟨z, h1, h2⟩ := hz i hi
      exact ⟨z, h1, by rw [World.cell?_alloc_lt _ _ _ hb]; exact h2⟩
theorem row_bytes {w : World} {a : Option Addr} {len cap : Nat} {zs : List Int} (h : IsRow .u8 w a len cap zs) :
    len = 0 ∨ ∃ b off, a = some ⟨b, off, none⟩ ∧ ∀ i, i < len → ∃ z : Nat, z < 256 ∧ w.cell? ⟨b, off + i, none⟩ = some (.int .u8 (z : Int)) := by
  rcases h with ⟨rfl, rfl, rfl, rfl⟩ | ⟨⟨b, off, sp⟩, rfl, hl, hm, hz, hcell, hwz⟩
  · exact .inl rfl
  · rcases Nat.eq_zero_or_pos len with h0 | h0
    · exact .inl h0
    · have hc := hcell 0 (by omega)
      have hsp : sp = none := by simpa [Addr.add] using World.cell?_spot hc
      subst hsp
      refine .inr ⟨b, off, rfl, fun i hi => ?_⟩
      have hi' : i < zs.length := by omega
      have hci := hcell i hi'
      have hg : zs.getD i 0 = zs[i] := by simp [List.getD, hi']
      have hw := hwz zs[i] (List.getElem_mem hi')
      have hb : 0 ≤ zs[i] ∧ zs[i] < 256 := by
        simp [Lit.wf, IntKind.min, IntKind.max, IntKind.signed, IntKind.bits] at hw; omega
      refine ⟨zs[i].toNat, by omega, ?_⟩
      rw [show ((zs[i].toNat : Nat) : Int) = zs[i] from by omega, ← hg]
      have hadd : (⟨b, off, none⟩ : Addr).add i = ⟨b, off + i, none⟩ := by unfold Addr.add; split <;> simp_all
      rw [← hadd]; exact hci

set_option maxHeartbeats 400000 in
theorem l1Open_any (a : Option Addr) (len cap : Nat) (zs : List Int) (w : World) (h : IsRow .u8 w a len cap zs) :
    Calls Try.prog 64 #[.slice a len cap] w fun e w' => e = .returned (.pointer (some ⟨w.heap.size, 0, none⟩)) ∧ Below w.heap.size w w' ∧ Rd 0 w' w.heap.size := by
  have hz := row_bytes h
  have HZ : Hid _ := hz
  clear hz
  have hlc : len ≤ cap := by
    rcases h with ⟨rfl, rfl, rfl, rfl⟩ | ⟨x, rfl, hl, _⟩
    · exact Nat.le_refl _
    · exact hl
  clear h
  by_cases hbig : 2000 < (len : Int)
  · go_enter Try.func64, Try.ntmps64
    go_wp2
    go_ret
    refine ⟨rfl, (Below.refl _ _).alloc (Nat.le_refl _) _, Rd.new w a 2000 cap (Nat.le_refl _) ?_⟩
    rcases HZ.out with h0 | ⟨b, off, ha, hz⟩
    · omega
    · exact .inr ⟨b, off, ha, fun i hi => hz i (by omega)⟩
  · go_enter Try.func64, Try.ntmps64
    go_wp2
    go_ret
    exact ⟨rfl, (Below.refl _ _).alloc (Nat.le_refl _) _, Rd.new w a len cap (by omega) HZ.out⟩

theorem pickI (N g : Nat) (n : Int) (w : World) (hN : N ≤ 1073741824) (hn1 : 1 ≤ n) (hn2 : n ≤ 1073741824) (hr : Rd N w g) :
    Calls Try.prog 66 #[.pointer (some ⟨g, 0, none⟩), .int .i64 n] w fun e w' => ∃ v : Nat, (v : Int) < n ∧ e = .returned (.int .i64 (v : Int)) ∧ Only g w w' ∧ Rd (N + 1) w' g := by
  obtain ⟨m, rfl⟩ := Int.eq_ofNat_of_zero_le (show 0 ≤ n by omega)
  refine (pick_any N m g w hN (by omega) (by omega) hr).mono ?_
  rintro e w' ⟨v, hv, h⟩
  exact ⟨v, by omega, h⟩
theorem only_grown {g : Nat} {w wr w' : World} {row : Option Nat} (h : Only g w wr) (hg : wr.grownBy w' row) (hr : ∀ k, row = some k → w.heap.size ≤ k) : Only g w w' :=
  ⟨hg.os.trans h.os, hg.tape.trans h.tape, hg.output.trans h.output, Nat.le_trans h.size hg.size, fun k hk hn =>
    (hg.block k (Nat.lt_of_lt_of_le hk h.size) (fun e => by have := hr k e.symm; omega)).trans (h.block k hk hn)⟩
theorem own_block {w : World} {base e size : Nat} {v : Value} {n : Nat} {xs : List Value} (h : w.ownsRow base e size v n xs) : ∀ k, v.ownBlock = some k → base ≤ k := by
  intro k hk
  rcases h.2 with ⟨rfl, _⟩ | ⟨b, cap, cur, rfl, hb, _⟩
  · cases hk
  · have : b = k := by simpa [Value.ownBlock] using hk
    omega
theorem own_only {w w' : World} {base e size g : Nat} {v : Value} {n : Nat} {xs : List Value} (h : w.ownsRow base e size v n xs) (ho : Only g w w') (hg : g < base) : w'.ownsRow base e size v n xs := by
  obtain ⟨h1, h2⟩ := h
  refine ⟨h1, ?_⟩
  rcases h2 with h2 | ⟨b, cap, cur, hv, hb, hh, r⟩
  · exact .inl h2
  · have hlt : b < w.heap.size := by
      rcases Nat.lt_or_ge b w.heap.size with h | h
      · exact h
      · rw [Array.getElem?_eq_none h] at hh; cases hh
    exact .inr ⟨b, cap, cur, hv, hb, by rw [ho.block b hlt (by omega)]; exact hh, r⟩
def isByte (u : Value) : Prop := ∃ z : Nat, z < 256 ∧ u = .int .u8 (z : Int)
/-- The text of a row of bytes of the call's own. -/
theorem own_text {w : World} {base n : Nat} {v : Value} {xs : List Value} (h : w.ownsRow base 5 1 v n xs) (hx : ∀ u ∈ xs, isByte u) :
    ∃ s : ByteArray, s.size = n ∧ (convert 38 9 v).run Try.prog w = .ok (.string s) w := by
  obtain ⟨h1, h2⟩ := h
  rcases h2 with ⟨rfl, rfl⟩ | ⟨b, cap, cur, rfl, hb, hh, hnc, hcm, hcs, htk⟩
  · exact ⟨ByteArray.empty, rfl, run_convert_bytes_nil w 38 5 Try.underlying38 Try.underlying5 0 0 9 Try.underlying9⟩
  · refine ⟨strOfNums (xs.map intOf), ?_, run_convert_bytes_arg w 38 5 Try.underlying38 Try.underlying5 b 0 n cap (xs.map intOf) (by simp; omega) (fun i hi => ?_) 9 Try.underlying9⟩
    · rw [strOfNums_size]; simp; omega
    · have hi' : i < xs.length := by omega
      have hc : w.cell? ⟨b, 0 + i, none⟩ = cur[i]? := by simp [World.cell?, hh]
      have hx' : cur[i]? = some xs[i] := by
        have e : cur.toList[i]? = xs[i]? := by
          rw [← htk, List.getElem?_take_of_lt (by omega)]
        rw [List.getElem?_eq_getElem hi'] at e
        simpa using e
      obtain ⟨z, hz, hu⟩ := hx xs[i] (List.getElem_mem hi')
      rw [hc, hx', hu]
      simp [List.getD, hi', hu, intOf]
theorem five_cells (w w' : World) (g va vb vc : Nat) (ha : va < 256) (hb : vb < 4) (hc : vc < 5) (ho : Only g (w.alloc (.cells #[.int .i64 va, .int .i64 vb, .int .i64 85, .int .i64 235, .int .i64 144] 3)) w') (hg : g < w.heap.size) :
    ∃ y : Nat, y < 256 ∧ w'.cell? ⟨w.heap.size, vc, none⟩ = some (.int .i64 (y : Int)) := by
  rw [ho.cell (p := ⟨w.heap.size, vc, none⟩) (by simp) (by simp; omega), World.cell?_alloc_mark]
  have h5 : vc = 0 ∨ vc = 1 ∨ vc = 2 ∨ vc = 3 ∨ vc = 4 := by omega
  rcases h5 with rfl | rfl | rfl | rfl | rfl
  · exact ⟨va, ha, rfl⟩
  · exact ⟨vb, by omega, rfl⟩
  · exact ⟨85, by omega, rfl⟩
  · exact ⟨235, by omega, rfl⟩
  · exact ⟨144, by omega, rfl⟩

theorem info_u8 : (Try.prog.info? 5).map (fun i => (i.zero, i.size, i.bytes)) = some (some (.int .u8 0), 1, 1) := by kernel_rfl
set_option maxRecDepth 100000 in
set_option maxHeartbeats 1000000 in
theorem l15Text_any (N most g : Nat) (w : World) (hN : N ≤ 536870912) (hm : most ≤ 1000) (hr : Rd N w g) :
    Calls Try.prog 117 #[.pointer (some ⟨g, 0, none⟩), .int .i64 (most : Nat)] w fun e w' => ∃ s : ByteArray, s.size ≤ most ∧ e = .returned (.string s) ∧ Only g w w' ∧ Rd (N + 1 + 3 * most) w' g := by
  have hg := hr.lt
  obtain ⟨i0, hi, hz0, hz1, hz2⟩ := info_parts info_u8
  have HR : Hid (Rd N (w.alloc (.cells #[] 5)) g) := hr.below ((Below.refl _ _).alloc (Nat.le_refl _) _)
  have HO : Hid (Only g w (w.alloc (.cells #[] 5))) := (Only.refl _ _).alloc _
  have HW : Hid ((w.alloc (.cells #[] 5)).ownsRow w.heap.size 5 1 (.slice (some ⟨w.heap.size, 0, none⟩) 0 0) 0 []) :=
    ⟨rfl, .inr ⟨w.heap.size, 0, #[], rfl, Nat.le_refl _, by rw [heap_alloc_new], Nat.le_refl _, by decide, rfl, rfl⟩⟩
  clear hr
  go_enter Try.func117, Try.ntmps117
  go_wp2_with fail
  refine (pickI N g _ _ (by omega) (by omega) (by omega) HR.out).mono ?_
  rintro e w1 ⟨v, hv, rfl, ho1, hr1⟩
  go_wp2_with fail
  go_loopw [5, 6] (fun b c wr => ∃ (k : Nat) (x : Value) (xs : List Value), k ≤ v ∧ c = .int .i64 (v - k : Nat) ∧ b = x ∧ wr.ownsRow w.heap.size 5 1 x k xs ∧ (∀ u ∈ xs, isByte u) ∧ Only g w wr ∧ Rd (N + 1 + 3 * k) wr g) (fun _ c _ => (intOf c).toNat)
  case atStart => exact ⟨0, _, [], by omega, by simp, rfl, own_only HW.out ho1 hg, by simp, HO.out.trans ho1, hr1⟩
  case round =>
    obtain ⟨k, x, xs, hk, rfl, rfl, hown, hxs, ho, hrd⟩ := hrel
    have HOwn : Hid (wr.ownsRow w.heap.size 5 1 u5 k xs) := hown
    have HXs : Hid (∀ u ∈ xs, isByte u) := hxs
    have HOn : Hid (Only g w wr) := ho
    have HRd : Hid (Rd (N + 1 + 3 * k) wr g) := hrd
    have hsz := ho.size
    clear hown hxs ho hrd
    by_cases hlt : 0 < ((v - k : Nat) : Int)
    · have hd : decide (0 < v - k) = true := by simp; omega
      have hvk : 0 < v - k := by omega
      go_wp2_with fail
      refine (pickI (N + 1 + 3 * k) g _ _ (by omega) (by omega) (by omega) HRd.out).mono ?_
      rintro e wa ⟨va, hva, rfl, hoa, hra⟩
      go_wp2_with fail
      refine (pickI (N + 1 + 3 * k + 1) g _ _ (by omega) (by omega) (by omega) hra).mono ?_
      rintro e wb ⟨vb, hvb, rfl, hob, hrb⟩
      go_wp2_with fail
      refine (pickI (N + 1 + 3 * k + 2) g _ _ (by omega) (by omega) (by omega) (hrb.below ((Below.refl _ _).alloc (Nat.le_refl _) _))).mono ?_
      rintro e wc ⟨vc, hvc, rfl, hoc, hrc⟩
      have hgb : g < wb.heap.size := hrb.lt
      obtain ⟨y, hy, hcell⟩ := five_cells wb wc g va vb vc (by omega) (by omega) (by omega) hoc hgb
      have hO : Only g wr wc := (hoa.trans hob).trans (((Only.refl _ _).alloc _).trans hoc)
      have hOwn2 := (own_only HOwn.out hO hg)
      have HO2 : Hid (Only g wr wc) := hO
      have HOwn2 : Hid (wc.ownsRow w.heap.size 5 1 u5 k xs) := hOwn2
      have HRc : Hid (Rd (N + 1 + 3 * k + 2 + 1) wc g) := hrc
      have hsc := hO.size
      have hvc' : vc < 5 := by omega
      clear hO hOwn2 hoa hob hoc hra hrb hrc hva hvb HR HO HW ho1 hr1 hgb
      go_wp2_with (at_builtin; refine wpList_append_own _ rfl _ _ 38 rfl w.heap.size 5 i0 (.int .u8 0) 1 1 Try.underlying38 hi hz0 hz1 hz2 rfl (by decide) _ _ _ rfl (HOwn2.out.alloc _) ⟨wc.heap.size, 0, none⟩ 1 1 [.int .u8 (y : Int)] rfl rfl (cell_one_new _ _ _) (ints_oneCell .u8 [(y : Int)]) (by unfold maxLen; omega) (by omega) (by simp; omega) ?_; intro v' w2 hown' hgrow' hnil')
      have hgr : (wc.alloc (.cells #[.int .u8 (y : Int)] 5)).grownBy w2 u5.ownBlock := hgrow'
      have hbl := own_block HOwn.out
      have ho2 : Only g w w2 := only_grown ((HOn.out.trans HO2.out).alloc _) hgr hbl
      have hr2 : Rd (N + 1 + 3 * (k + 1)) w2 g := by
        have h3 : Rd (N + 1 + 3 * k + 2 + 1) (wc.alloc (.cells #[.int .u8 (y : Int)] 5)) g := HRc.out.below ((Below.refl _ _).alloc (Nat.le_refl _) _)
        refine (h3.keep (w' := w2) fun j hj => hgr.block j (by simp; omega) (fun e => by have := hbl j e.symm; omega)).mono (by omega)
      refine ⟨⟨k + 1, v', xs ++ [.int .u8 (y : Int)], by omega, by congr 1; omega, rfl, hown', ?_, ho2, hr2⟩, by simp [intOf]; omega⟩
      intro u hu
      rcases List.mem_append.1 hu with hu | hu
      · exact HXs.out u hu
      · exact ⟨y, hy, by simpa using hu⟩
    · obtain ⟨s, hs, hconv⟩ := own_text HOwn.out HXs.out
      go_wp2_with fail
      go_ret
      exact ⟨s, by omega, rfl, HOn.out, HRd.out.mono (by omega)⟩
end Go.Proofs.Ytfienpoebndfpaa
