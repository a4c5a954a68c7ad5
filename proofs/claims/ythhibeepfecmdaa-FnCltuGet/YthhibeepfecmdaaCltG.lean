/- The contracts of CltuGet, both sides: what a text's code blocks are. -/
import Derived.Test.YthhibeepfecmdaaRfB
import Derived.Test.YthhibeepfecmdaaBchW
import Derived.Test.YthhibeepfecmdaaCltM
import Derived.Test.YthhibeepfecmdaaHeap
import Derived.Shelf.RegionOpen
import Derived.Stop.RegionWithIn
import Derived.OwnWalkIn
import Derived.TacticsInMore
import Derived.LoopIn
import Derived.ControlIn
import Derived.Deep.QuietTactic
import Derived.BigQuiet
namespace Go.Proofs.Ythhibeepfecmdaa
open Go.ChangeShapes Go.WideShapes Go.ChangeAt Go.RowKit
set_option linter.unusedVariables false
attribute [local go_sem] Oper.semAt_some
/-- The k-th eight bytes are a code block. -/
def goodB (t : ByteArray) (k : Nat) : Bool := decide (8 * k + 8 ≤ t.size) && (bchV (t.extract (8 * k) (8 * k + 7)) == byteAt t (8 * k + 7))
abbrev blkAt (t : ByteArray) (k : Nat) : ByteArray := t.extract (8 * k) (8 * k + 7)
/-- The data of the first k code blocks. -/
def getB (t : ByteArray) : Nat → ByteArray
  | 0 => ⟨#[]⟩
  | k + 1 => getB t k ++ blkAt t k
theorem blkAt_size {t : ByteArray} {k : Nat} (h : 8 * k + 8 ≤ t.size) : (blkAt t k).size = 7 := by unfold blkAt; rw [ByteArray.size_extract]; omega
set_option maxRecDepth 100000 in
set_option maxHeartbeats 2000000 in
theorem each_gives (n : Nat) (t : ByteArray) (B : Nat) (hs : t.size ≤ 1073741824) :
    Gives Try.prog (n + 1) 78 #[.string t] Value.string (fun k x => goodB t k = true ∧ x = blkAt t k) (fun k _ => k + 1) (fun k => goodB t k = false) 0 B := by
  intro l J Jx W hB hJd hJxd hJa hJxa hY h0
  have hJn : ∀ (m : Nat) (s : Nat) (W : World), J s W → J s (W.drewN m) := by
    intro m
    induction m with
    | zero => exact fun _ _ h => h
    | succ m ih => exact fun s W h => hJd _ _ (ih s W h)
  refine callsIn_of_wp Try.func78 rfl trivial ?_
  simp only [Try.ntmps78, List.size_toArray, List.length_cons, List.length_nil, Nat.reduceAdd, Nat.reduceSub, Array.replicate_succ, Array.replicate_zero, List.push_toArray, List.append_toArray, List.nil_append, List.cons_append]
  gi_wp2
  gi_loopw [4] (fun i wr => ∃ k : Nat, 8 * k ≤ t.size ∧ i = .int .i64 (8 * k : Nat) ∧ J k wr) (fun i _ => (t.size + 8 - intOf i).toNat)
  case atStart => exact ⟨0, by omega, rfl, h0⟩
  case round =>
    obtain ⟨k, hk, rfl, hj⟩ := hrel
    by_cases hlt : 8 * k + 8 ≤ t.size
    · have h7 := blkAt_size hlt
      have hby : (t[(8 * (k : Int) + 7).toNat]'(by omega)).toNat = byteAt t (8 * k + 7) := by
        rw [← byteAt_eq t (8 * k + 7) (by omega)]
        congr 1
      have hwb : IntKind.i64.wrap ((byteAt t (8 * k + 7) : Nat) : Int) = (byteAt t (8 * k + 7) : Nat) := wrap_id _ (by omega) (by have := byteAt_lt t (8 * k + 7); omega)
      have hbt := byteAt_lt t (8 * k + 7)
      have hbv := bchV_256 (blkAt t k)
      have hi1 : (8 * (k : Int) + 7) < (t.size : Int) := by omega
      have hi2 : (0 : Int) ≤ 8 * (k : Int) + 7 := by omega
      have hwr : IntKind.i64.wrap (8 * (k : Int) + 7) = 8 * (k : Int) + 7 := wrap_id _ (by omega) (by omega)
      cases hg : goodB t k
      · have hne : (((bchV (t.extract (8 * k) (8 * k + 7)) : Nat) : Int) != ((byteAt t (8 * k + 7) : Nat) : Int)) = true := by
          simp only [goodB, hlt, decide_true, Bool.true_and, beq_eq_false_iff_ne] at hg
          rw [bne_iff_ne]; omega
        have HG : Hid _ := hg
        clear hg
        gi_wp2
        refine wpIn_wide.2 ?_
        go_quiet ((go_at_call 22; exact Calls.quiet_of_same (implBch_any _ _ h7)))
        gi_wp2
        refine bodyPost_ret (results_none rfl _ _ _) rfl ?_
        exact ⟨⟨_, rfl⟩, .inl ⟨k, HG.out, hJn _ _ _ hj⟩⟩
      · have hne : (((bchV (t.extract (8 * k) (8 * k + 7)) : Nat) : Int) != ((byteAt t (8 * k + 7) : Nat) : Int)) = false := by
          simp only [goodB, hlt, decide_true, Bool.true_and, beq_iff_eq] at hg
          rw [bne_eq_false_iff_eq]; omega
        obtain ⟨fn, tmps, asg, bo, hy, hR⟩ := hY k (t.extract (8 * k) (8 * k + 7)) wr.drew (hJd _ _ hj) ⟨hg, rfl⟩
        have HG : Hid _ := hg
        clear hg
        gi_wp2
        gi_region_with (first | (refine ⟨trivial, ?_⟩; gi_at_call 22; refine (callsIn_wide.2 (implBch_any _ _ h7)).mono ?_; rintro e w' ⟨rfl, rfl⟩) | (refine hR.mono ?_; rintro e W3 ⟨b, rfl, hh3, ht3, hf3⟩))
        all_goals
          cases b
          · gi_wp2
            refine bodyPost_ret (results_none rfl _ _ _) rfl ?_
            exact ⟨⟨_, rfl⟩, .inr (hf3 (by simp))⟩
          · gi_wp2
            go_roundw
            case rel => exact ⟨k + 1, by omega, by go_num, ht3 (by simp)⟩
            case measure => simp [intOf]; omega
    · gi_wp2
      go_end0
      exact ⟨⟨_, rfl⟩, .inl ⟨k, by simp [goodB, hlt], hj⟩⟩
/-- The text of code blocks ends at k. -/
def stopB (t : ByteArray) (k : Nat) : Prop := (k ≤ 9 ∧ ∀ j, j < k → goodB t j = true) ∧ (goodB t k = false ∨ k = 9)
theorem stopB_one {t : ByteArray} {k k' : Nat} (h : stopB t k) (h' : stopB t k') : k = k' := by
  rcases Nat.lt_trichotomy k k' with e | e | e
  · have := h'.1.2 k e
    rcases h.2 with q | q
    · rw [this] at q; cases q
    · have := h'.1.1; omega
  · exact e
  · have := h.1.2 k' e
    rcases h'.2 with q | q
    · rw [this] at q; cases q
    · have := h.1.1; omega
theorem good_size {t : ByteArray} {k : Nat} (h : goodB t k = true) : 8 * k + 8 ≤ t.size := by
  simp only [goodB, Bool.and_eq_true, decide_eq_true_eq] at h; exact h.1
theorem getB_size {t : ByteArray} : ∀ {k : Nat}, (∀ j, j < k → goodB t j = true) → (getB t k).size = 7 * k
  | 0, _ => rfl
  | k + 1, h => by
    unfold getB
    rw [ByteArray.size_append, getB_size (fun j hj => h j (by omega)), blkAt_size (good_size (h k (by omega)))]; omega
set_option maxRecDepth 100000 in
set_option maxHeartbeats 2000000 in
theorem implCltuGet_any (t : ByteArray) (w : World) (hs : t.size ≤ 1073741824) :
    Calls Try.prog 20 #[.string t] w fun e w' => ∃ k, stopB t k ∧ e = .returned (.tuple #[.string (getB t k), .int .i64 (8 * k : Nat)]) ∧ Below w.heap.size w w' := by
  refine (callsIn_wide (n := 5)).1 ?_
  refine callsIn_of_wp_marks Try.func20 rfl trivial ?_
  simp only [Try.ntmps20, List.size_toArray, List.length_cons, List.length_nil, Nat.reduceAdd, Nat.reduceSub, Array.replicate_succ, Array.replicate_zero, List.push_toArray, List.append_toArray, List.nil_append, List.cons_append]
  gi_wp2
  have hG0 : ((w.alloc (.cells #[.string ⟨#[]⟩] 9)).alloc (.cells #[.int .i64 0] 3)).heap[w.heap.size]? = some (.cells #[.string ⟨#[]⟩] 9) := get_alloc (get_new rfl) (by simp)
  have hG1 : ((w.alloc (.cells #[.string ⟨#[]⟩] 9)).alloc (.cells #[.int .i64 0] 3)).heap[w.heap.size + 1]? = some (.cells #[.int .i64 0] 3) := get_new (by simp)
  have hB0 : Below w.heap.size w ((w.alloc (.cells #[.string ⟨#[]⟩] 9)).alloc (.cells #[.int .i64 0] 3)) := ((Below.refl _ w).alloc (Nat.le_refl _) _).alloc (by simp) _
  have hz : ((w.alloc (.cells #[.string ⟨#[]⟩] 9)).alloc (.cells #[.int .i64 0] 3)).heap.size = w.heap.size + 2 := by simp
  generalize (w.alloc (.cells #[.string ⟨#[]⟩] 9)).alloc (.cells #[.int .i64 0] 3) = W0 at *
  have hCalm : ∀ k, Calm W0.heap.size (fun W => (k ≤ 9 ∧ ∀ j, j < k → goodB t j = true) ∧ W.heap[w.heap.size]? = some (.cells #[.string (getB t k)] 9) ∧ W.heap[w.heap.size + 1]? = some (.cells #[.int .i64 (8 * k : Nat)] 3) ∧ Below w.heap.size w W) :=
    fun k => Calm.pure.and ((Calm.block (by omega)).and ((Calm.block (by omega)).and (Calm.below (Nat.le_refl _) (by omega))))
  have HSZ : Hid (W0.heap.size = w.heap.size + 2) := hz
  refine wpIn_rangeB (gf := 78) (bd := #[.string t]) rfl (enters_of Try.func78 (by kernel_rfl) rfl) rfl (each_gives 3 t _ hs)
    (fun k W => (k ≤ 9 ∧ ∀ j, j < k → goodB t j = true) ∧ W.heap[w.heap.size]? = some (.cells #[.string (getB t k)] 9) ∧ W.heap[w.heap.size + 1]? = some (.cells #[.int .i64 (8 * k : Nat)] 3) ∧ Below w.heap.size w W)
    (fun c W => c = .exit 0 ∧ (9 ≤ 9 ∧ ∀ j, j < 9 → goodB t j = true) ∧ W.heap[w.heap.size]? = some (.cells #[.string (getB t 9)] 9) ∧ W.heap[w.heap.size + 1]? = some (.cells #[.int .i64 (8 * 9 : Nat)] 3) ∧ Below w.heap.size w W)
    hCalm (fun c => Calm.pure.and (hCalm 9)) ⟨⟨by omega, fun j hj => by omega⟩, hG0, hG1, hB0⟩
    (fun x => { tmps := #[.string t, undef, .string ⟨#[]⟩, .int .i64 0, .pointer (some ⟨w.heap.size, 0, none⟩), .pointer (some ⟨w.heap.size + 1, 0, none⟩), .string x, .string t, .func (.func 78) #[.string t] #[], .string x, undef, undef, undef, undef, undef, undef, undef, undef, undef, undef, undef], defers := [] }) ?assign ?body ?done ?stop
  case assign =>
    intro l x W K hK
    gi_wp2
    exact hK
  case body =>
    rintro l k x W ⟨⟨h9, hall⟩, hO, hZ, hB⟩ ⟨hgood, rfl⟩
    have hsz := getB_size hall
    have hx := blkAt_size (good_size hgood)
    have HE : Hid (getB t (k + 1) = getB t k ++ blkAt t k) := rfl
    have hc0 : W.cell? ⟨w.heap.size, 0, none⟩ = some (.string (getB t k)) := cell_get hO rfl
    have hc1 : W.cell? ⟨w.heap.size + 1, 0, none⟩ = some (.int .i64 (8 * k : Nat)) := cell_get hZ rfl
    have hf0 : W.frozen? ⟨w.heap.size, 0, none⟩ = false := frozen_get hO
    have hf1 : W.frozen? ⟨w.heap.size + 1, 0, none⟩ = false := frozen_get hZ
    have HI : Hid ((k ≤ 9 ∧ ∀ j, j < k → goodB t j = true) ∧ W.heap[w.heap.size]? = some (.cells #[.string (getB t k)] 9) ∧ W.heap[w.heap.size + 1]? = some (.cells #[.int .i64 (8 * k : Nat)] 3) ∧ Below w.heap.size w W) := ⟨⟨h9, hall⟩, hO, hZ, hB⟩
    have HGD : Hid _ := hgood
    clear hO hZ hB hgood hall
    by_cases e9 : k = 9
    · subst e9
      have h63 : (63 : Int) < (getB t 9).size + 7 := by omega
      generalize blkAt t 9 = q at *
      gi_wp2
      exact ⟨KeepsOthers.refl _, Hi.refl _ _, rfl, HI.out⟩
    · have h63 : ¬ (63 : Int) < (getB t k).size + 7 := by omega
      generalize hq : blkAt t k = q at *
      generalize hp : getB t k = p at *
      clear hq hp
      gi_wp2
      obtain ⟨⟨_, hall⟩, hO, hZ, hB⟩ := HI.out
      refine ⟨(KeepsOthers.setCell _ _ _).trans (KeepsOthers.setCell _ _ _), (Hi.set (by omega)).trans (Hi.set (by omega)), ⟨by omega, fun j hj => ?_⟩, ?_, ?_, belowS (belowS hB (by omega)) (by omega)⟩
      · rcases Nat.lt_or_ge j k with e | e
        · exact hall j e
        · obtain rfl : j = k := by omega
          exact HGD.out
      · rw [HE.out]; exact get_set_ne (get_set hO rfl) (by omega)
      · have e8 : 8 * ((k : Int) + 1) = 8 * (k : Int) + 8 := by omega
        rw [e8]; exact get_set (get_set_ne hZ (by omega)) rfl
  case done =>
    rintro D k W hD hEnd ⟨⟨h9, hall⟩, hO, hZ, hB⟩ hK
    have hc0 : W.cell? ⟨w.heap.size, 0, none⟩ = some (.string (getB t k)) := cell_get hO rfl
    have hc1 : W.cell? ⟨w.heap.size + 1, 0, none⟩ = some (.int .i64 (8 * k : Nat)) := cell_get hZ rfl
    gi_wp2
    refine wpIn_wide.2 ?_
    go_quiet (fail)
    gi_wp2
    have e8 : ((8 * k : Nat) : Int) = 8 * ((k : Nat) : Int) := by omega
    refine ⟨by simp, .inl ⟨_, _, rfl, run_takeDeferred (w := W.drewN nq) hK, ?_⟩⟩
    refine ⟨_, results_tmp2 Try.results20 _ _ _, k, ⟨⟨h9, hall⟩, .inl hEnd⟩, by rw [e8]; rfl, (belowN hB nq).trans ⟨rfl, rfl, rfl, by simp, fun i hi => World.putObj_heap_other (by omega)⟩⟩
  case stop =>
    rintro D c W hD ⟨rfl, ⟨_, hall⟩, hO, hZ, hB⟩ hK
    have hc0 : W.cell? ⟨w.heap.size, 0, none⟩ = some (.string (getB t 9)) := cell_get hO rfl
    have hc1 : W.cell? ⟨w.heap.size + 1, 0, none⟩ = some (.int .i64 (8 * 9 : Nat)) := cell_get hZ rfl
    gi_wp2
    refine wpIn_wide.2 ?_
    go_quiet (fail)
    gi_wp2
    refine ⟨by simp, .inl ⟨_, _, rfl, run_takeDeferred (w := W.drewN nq) hK, ?_⟩⟩
    refine ⟨_, results_tmp2 Try.results20 _ _ _, 9, ⟨⟨Nat.le_refl _, hall⟩, .inr rfl⟩, rfl, (belowN hB nq).trans ⟨rfl, rfl, rfl, by simp, fun i hi => World.putObj_heap_other (by omega)⟩⟩
end Go.Proofs.Ythhibeepfecmdaa
