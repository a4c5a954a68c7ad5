/- A slice of texts that is the call's own: rows, marks. -/
import Derived.Test.YtgejiiaocgacmaaDoorMkText
namespace Go.Proofs.YtgejiiaocgacmaaDoor
open Go.ChangeShapes Go.WideShapes Go.ChangeAt Go.RowKit
set_option linter.unusedVariables false
def allString (f : Nat → ByteArray) : Nat → Value := fun q => .string (f q)
def mkString_0 (k0 : Int) : Nat → ByteArray := fun i => markT (k0 + (i : Int))
def upString (f : Nat → ByteArray) (k0 : Int) (k : Nat) : Nat → Value := fun q => if q < k then .string (markT (k0 + (q : Int))) else .string (f q)
theorem Txt.off {S : List Nat} {w w' : World} {a : Option Addr} {b n : Nat} {f : Nat → ByteArray} (h : Txt w a n f) (hin : In b a n) (k : Off S w w') (hS : n ≠ 0 → b ∉ S) : Txt w' a n f := by
  refine ⟨h.1, h.2.imp id ?_⟩
  rintro ⟨b', off, rfl, hlt, hc⟩
  by_cases hn : n = 0
  · exact ⟨b', off, rfl, Nat.lt_of_lt_of_le hlt k.size, fun i hi => by omega⟩
  rcases hin with h0 | ⟨off', e⟩
  · exact absurd h0 hn
  cases e
  have hh : ∀ q, w'.cell? ⟨b, q, none⟩ = w.cell? ⟨b, q, none⟩ := fun q => World.cell?_of_block (k.block b hlt (hS hn))
  refine ⟨b, off, rfl, Nat.lt_of_lt_of_le hlt k.size, fun i hi => ?_⟩
  simp only [hh]
  exact hc i hi
theorem Txt.inn {w : World} {a : Option Addr} {n : Nat} {f : Nat → ByteArray} (h : Txt w a n f) : ∃ y, In y a n ∧ (n ≠ 0 → y < w.heap.size) := by
  rcases h.2 with h0 | ⟨b, off, rfl, hlt, _⟩
  · exact ⟨0, .inl h0, fun hn => absurd h0 hn⟩
  · exact ⟨b, .inr ⟨off, rfl⟩, fun _ => hlt⟩
theorem rowString_of {w : World} {b off n : Nat} {f : Nat → ByteArray} (h : ∀ i, i < n → w.cell? ⟨b, off + i, none⟩ = some (.string (f i))) : FRow w b off n (allString f) := fun q hq => h q hq
theorem of_rowString {w : World} {b off n : Nat} {f : Nat → ByteArray} (h : FRow w b off n (allString f)) : ∀ i, i < n → w.cell? ⟨b, off + i, none⟩ = some (.string (f i)) := fun i hi => h i hi
theorem mkT_max (k : Int) : (markT k).size ≤ maxLen := Nat.le_trans (markT_size k) (by unfold maxLen; omega)
theorem upString_step (f : Nat → ByteArray) (k0 : Int) (k q : Nat) : (if q = k then Value.string (markT (k0 + (k : Int))) else upString f k0 k q) = upString f k0 (k + 1) q := by
  unfold upString
  by_cases e : q = k
  · subst e; simp
  · have : (q < k + 1) = (q < k) := by simp; omega
    simp [e, this]
theorem mkString_end {w : World} {b off n : Nat} {f : Nat → ByteArray} {k0 : Int} (hlt : b < w.heap.size) (h : FRow w b off n (upString f k0 n)) : Txt w (some ⟨b, off, none⟩) n (mkString_0 k0) := by
  refine ⟨fun i hi => mkT_max _, .inr ⟨b, off, rfl, hlt, fun i hi => ?_⟩⟩
  have := h i hi
  simp only [upString, hi, if_true] at this
  exact this
set_option maxRecDepth 100000 in
set_option maxHeartbeats 4000000 in
theorem markStringS_any (a : Option Addr) (b n cap : Nat) (f : Nat → ByteArray) (k0 : Int) (w : World) (hn : n ≤ 4194304) (hk0 : 0 ≤ k0) (hk1 : k0 ≤ 1099511627776) (h : Txt w a n f) (hin : In b a n) (hfr0 : n ≠ 0 → Free w b) :
    Calls Tryd.prog 48 #[.slice a n cap, .int .i64 k0] w fun e w' => e = .returned (.int .i64 (k0 + n)) ∧ Txt w' a n (mkString_0 k0) ∧ Off (own b n) w w' := by
  obtain ⟨hsz, h⟩ := h
  rcases h with h0 | ⟨b', off, rfl, hlt', hc⟩
  · subst h0
    clear hfr0 hin
    go_enter Tryd.func48, Tryd.ntmps48
    go_wp2_with fail
    refine Go.wp_loop_rounds 1 ?_
    rw [Go.rounds_succ]
    go_wp2_with fail
    go_ret
    exact ⟨by simp, ⟨fun i hi => by omega, .inl rfl⟩, Off.refl _ _⟩
  by_cases hn0 : n = 0
  · subst hn0
    clear hin hc
    go_enter Tryd.func48, Tryd.ntmps48
    go_wp2_with fail
    refine Go.wp_loop_rounds 1 ?_
    rw [Go.rounds_succ]
    go_wp2_with fail
    go_ret
    exact ⟨by simp, ⟨fun i hi => by omega, .inl rfl⟩, Off.refl _ _⟩
  rcases hin with h0 | ⟨off', e⟩
  · exact absurd h0 hn0
  cases e
  have hlt := hlt'
  have hfr := hfr0 hn0
  have HR : Hid (FRow w b off n (upString f k0 0)) := fun q hq => by simp [upString]; exact hc q hq
  have HFr : Hid _ := hfr
  clear hc hfr hfr0
  go_enter Tryd.func48, Tryd.ntmps48
  go_wp2_with fail
  go_loopw [1, 5] (fun v i wr => ∃ k : Nat, k ≤ n ∧ i = .int .i64 k ∧ v = .int .i64 (k0 + (k : Int)) ∧ FRow wr b off n (upString f k0 k) ∧ Free wr b ∧ Off [b] w wr) (fun _ i _ => n - (intOf i).toNat)
  case atStart => exact ⟨0, by omega, rfl, by simp, HR.out, HFr.out, Off.refl _ _⟩
  case round =>
    obtain ⟨k, hk, rfl, rfl, hF, hFr, hO⟩ := hrel
    have HF : Hid _ := hF
    have HFw : Hid _ := hFr
    have HO : Hid _ := hO
    have hbw : b < wr.heap.size := Nat.lt_of_lt_of_le hlt hO.size
    clear hF hFr hO
    by_cases hlt2 : k < n
    · have hik : (k : Int) < (n : Int) := by omega
      go_wp2_with fail
      refine (markText_any _ _ (by omega)).mono ?_
      rintro e w1 ⟨rfl, hb1⟩
      have HF1 : Hid (FRow w1 b off n (upString f k0 k)) := FRow.below HF.out hb1
      have HFr1 : Hid (Free w1 b) := Free.below HFw.out hb1 hbw
      have HO1 : Hid (Off [b] w w1) := HO.out.trans (Off.of_below hb1)
      clear hb1
      obtain ⟨u0, o0⟩ : ∃ u, w1.cell? ⟨b, off + k, none⟩ = some (.string u) := by
        have := HF1.out k hlt2
        simp only [upString, Nat.lt_irrefl, if_false] at this
        exact ⟨_, this⟩
      have hfz : ∀ q, w1.frozen? ⟨b, q, none⟩ = false := fun q => HFr1.out q
      go_wp2_with fail
      refine ⟨⟨k + 1, by omega, by go_num, by go_num, ?_, Free.set HFr1.out, HO1.out.set (by simp)⟩, by simp [intOf]; omega⟩
      refine FRow.congr (FRow.set HF1.out (q0 := k) hlt2 _) fun q hq => upString_step f k0 k q
    · obtain rfl : k = n := by omega
      go_wp2_with fail
      go_ret
      exact ⟨rfl, mkString_end hbw HF.out, Off.one HO.out hn0⟩
set_option maxRecDepth 100000 in
set_option maxHeartbeats 4000000 in
theorem heldStringS_any (a : Option Addr) (n cap : Nat) (k0 : Int) (w : World) (hn : n ≤ 4194304) (hk0 : 0 ≤ k0) (hk1 : k0 ≤ 1099511627776) (h : Txt w a n (mkString_0 k0)) :
    Calls Tryd.prog 49 #[.slice a n cap, .int .i64 k0] w fun e w' => e = .returned (.int .i64 (k0 + n)) ∧ Below w.heap.size w w' := by
  obtain ⟨hsz, h0 | ⟨b, off, rfl, hlt, hc⟩⟩ := h
  · subst h0
    go_enter Tryd.func49, Tryd.ntmps49
    go_wp2_with fail
    refine Go.wp_loop_rounds 1 ?_
    rw [Go.rounds_succ]
    go_wp2_with fail
    go_ret
    exact ⟨by simp, Below.refl _ _⟩
  have HC : Hid (∀ k : Nat, k < n → w.cell? ⟨b, off + k, none⟩ = some (.string (markT (k0 + (k : Int))))) := hc
  clear hc hsz
  go_enter Tryd.func49, Tryd.ntmps49
  go_wp2_with fail
  go_loopw [1, 5] (fun v i wr => ∃ k : Nat, k ≤ n ∧ i = .int .i64 k ∧ v = .int .i64 (k0 + (k : Int)) ∧ Below w.heap.size w wr) (fun _ i _ => n - (intOf i).toNat)
  case atStart => exact ⟨0, by omega, rfl, by simp, Below.refl _ _⟩
  case round =>
    obtain ⟨k, hk, rfl, rfl, hB⟩ := hrel
    have HB : Hid _ := hB
    have hbw : b < wr.heap.size := Nat.lt_of_lt_of_le hlt hB.size
    by_cases hlt2 : k < n
    · have c0 : wr.cell? ⟨b, off + k, none⟩ = some (.string (markT (k0 + (k : Int)))) := (hB.cell (p := ⟨b, off + k, none⟩) hlt).trans (HC.out k hlt2)
      have hik : (k : Int) < (n : Int) := by omega
      clear hB
      go_wp2_with fail
      replace c0 := Bl.cell c0 hbw
      refine wp_region_bl (by kernel_rfl) (by kernel_rfl) ?_
      repeat (go_big_quiet_step ((go_at_call 96; exact calls_bl (markText_any _ _ (by omega)))))
      refine wpQuiet_nil ?_
      intro w1 hw
      obtain ⟨⟨w1, hb⟩, rfl⟩ := hw
      have HB1 : Hid (Below w.heap.size w w1) := HB.out.trans (hb.mono HB.out.size)
      clear c0 hb
      go_wp2_with fail
      exact ⟨⟨k + 1, by omega, by go_num, by go_num, HB1.out⟩, by simp [intOf]; omega⟩
    · obtain rfl : k = n := by omega
      clear hB
      go_wp2_with fail
      go_ret
      exact ⟨rfl, HB.out⟩
end Go.Proofs.YtgejiiaocgacmaaDoor
