/- The contract of spec.DrawFarmHear. -/
import Derived.Test.YtfojljhpobdcdaaDrawI
import Derived.Test.YtfojljhpobdcdaaFaS
namespace Go.Proofs.Ytfojljhpobdcdaa
open Go.ChangeShapes Go.WideShapes Go.ChangeAt Go.RowKit
set_option linter.unusedVariables false
def dh5T (g r : Nat) (r1 bf bx : Nat) (fs fw fa : Bool) (fc fn : Int) (xp xg : Bool) (xc xv xq : Int) (xd : ByteArray) (a : Option Addr) (len cap v4 : Nat) (V : Nat → Value) : Act := { tmps := #[Value.slice a len cap, undef, .pointer (some ⟨r, 0, none⟩), .pointer (some ⟨r1, 0, none⟩), .bool false, .pointer (some ⟨g, 0, none⟩), .pointer (some ⟨bf, 0, none⟩), .pointer (some ⟨bx, 0, none⟩), Value.slice a len cap, .pointer (some ⟨g, 0, none⟩), .pointer (some ⟨g, 0, none⟩), Value.agg #[.bool fs, .bool fw, .bool fa, .int .i64 fc, .int .i64 fn], .pointer (some ⟨g, 0, none⟩), Value.agg #[.bool xp, .bool xg, .int .i64 xc, .int .i64 xv, .int .i64 xq, Value.string xd], .pointer (some ⟨g, 0, none⟩), .int .i64 ↑v4, .bool true, V 0, V 1, V 2, V 3, V 4, V 5, V 6, V 7, undef, undef, undef, undef, undef], defers := [] }
def dh5C (L : Nat → Bool) : Nat := (L 4).toNat
theorem dh5C_le (L : Nat → Bool) : dh5C L ≤ 1 := by
  have h4 := Bool.toNat_le (L 4)
  simp only [dh5C]
  omega
def dh5S (g base : Nat) (r1 bf bx : Nat) (fs fw fa : Bool) (fc fn : Int) (xp xg : Bool) (xc xv xq : Int) (xd : ByteArray) (a : Option Addr) (len cap v4 : Nat) : Nat → Value → World → Prop
  | 0, v, w => v = .pointer (some ⟨bf, 4, none⟩)
  | 1, v, w => v = .int .i64 fn
  | 2, v, w => v = .pointer (some ⟨g, 0, none⟩)
  | 3, v, w => SInts base 12 (-9) 128 v w
  | 4, v, w => SInt (-9) 128 v
  | 5, v, w => SInt (-10) 384 v
  | 6, v, w => SInt 0 255 v
  | 7, v, w => v = .pointer (some ⟨bx, 4, none⟩)
  | _, _, _ => True
theorem dh5S_keep {g base : Nat} (hg : g < base) (r1 bf bx : Nat) (fs fw fa : Bool) (fc fn : Int) (xp xg : Bool) (xc xv xq : Int) (xd : ByteArray) (a : Option Addr) (len cap v4 : Nat) : ∀ (j : Nat) (v : Value) (w w' : World), Only g w w' → dh5S g base r1 bf bx fs fw fa fc fn xp xg xc xv xq xd a len cap v4 j v w → dh5S g base r1 bf bx fs fw fa fc fn xp xg xc xv xq xd a len cap v4 j v w' := by
  intro j v w w' h s
  match j, s with
  | 0, s => exact s
  | 1, s => exact s
  | 2, s => exact s
  | 3, s => exact SInts.keep hg h s
  | 4, s => exact s
  | 5, s => exact s
  | 6, s => exact s
  | 7, s => exact s
  | 8, s => trivial
  | _ + 9, s => trivial
def dh6T (g r : Nat) (r1 bf bx : Nat) (fs fw fa : Bool) (fc fn : Int) (xp xg : Bool) (xc xv xq : Int) (xd : ByteArray) (a : Option Addr) (len cap v4 : Nat) (U : Nat → Value) (q' : Int) (V : Nat → Value) : Act := { tmps := #[Value.slice a len cap, undef, .pointer (some ⟨r, 0, none⟩), .pointer (some ⟨r1, 0, none⟩), V 7, .pointer (some ⟨g, 0, none⟩), .pointer (some ⟨bf, 0, none⟩), .pointer (some ⟨bx, 0, none⟩), Value.slice a len cap, .pointer (some ⟨g, 0, none⟩), .pointer (some ⟨g, 0, none⟩), Value.agg #[.bool fs, .bool fw, .bool fa, .int .i64 fc, .int .i64 fn], .pointer (some ⟨g, 0, none⟩), Value.agg #[.bool xp, .bool xg, .int .i64 xc, .int .i64 xv, .int .i64 xq, Value.string xd], .pointer (some ⟨g, 0, none⟩), .int .i64 ↑v4, .bool true, U 0, U 1, U 2, U 3, U 4, U 5, .int .i64 q', .pointer (some ⟨bx, 4, none⟩), V 0, V 1, V 2, V 3, V 4], defers := [] }
def dh6C (L : Nat → Bool) : Nat := (L 3).toNat
theorem dh6C_le (L : Nat → Bool) : dh6C L ≤ 1 := by
  have h3 := Bool.toNat_le (L 3)
  simp only [dh6C]
  omega
def dh6S (g base : Nat) (r1 bf bx : Nat) (fs fw fa : Bool) (fc fn : Int) (xp xg : Bool) (xc xv xq : Int) (xd : ByteArray) (a : Option Addr) (len cap v4 : Nat) (U : Nat → Value) (q' : Int) : Nat → Value → World → Prop
  | 0, v, w => v = .agg #[.bool fs, .bool fw, .bool fa, .int .i64 fc, .int .i64 fn]
  | 1, v, w => v = .agg #[.bool xp, .bool xg, .int .i64 xc, .int .i64 xv, .int .i64 q', .string xd]
  | 2, v, w => v = .pointer (some ⟨g, 0, none⟩)
  | 3, v, w => SNat 3 v
  | 4, v, w => ∃ x : Bool, v = .bool x
  | 7, v, w => ∃ x : Bool, v = .bool x
  | _, _, _ => True
theorem dh6S_keep {R : World → World → Prop} {g base : Nat} (r1 bf bx : Nat) (fs fw fa : Bool) (fc fn : Int) (xp xg : Bool) (xc xv xq : Int) (xd : ByteArray) (a : Option Addr) (len cap v4 : Nat) (U : Nat → Value) (q' : Int) : ∀ (j : Nat) (v : Value) (w w' : World), R w w' → dh6S g base r1 bf bx fs fw fa fc fn xp xg xc xv xq xd a len cap v4 U q' j v w → dh6S g base r1 bf bx fs fw fa fc fn xp xg xc xv xq xd a len cap v4 U q' j v w' := by
  intro j v w w' h s
  match j, s with
  | 0, s => exact s
  | 1, s => exact s
  | 2, s => exact s
  | 3, s => exact s
  | 4, s => exact s
  | 5, s => trivial
  | 6, s => trivial
  | 7, s => exact s
  | _ + 8, s => trivial
def dh7T (g r : Nat) (r1 bf bx : Nat) (fs fw fa : Bool) (fc fn : Int) (xp xg : Bool) (xc xv xq : Int) (xd : ByteArray) (a : Option Addr) (len cap v4 : Nat) (V : Nat → Value) : Act := { tmps := #[Value.slice a len cap, undef, .pointer (some ⟨r, 0, none⟩), .pointer (some ⟨r1, 0, none⟩), V 7, .pointer (some ⟨g, 0, none⟩), .pointer (some ⟨bf, 0, none⟩), .pointer (some ⟨bx, 0, none⟩), Value.slice a len cap, .pointer (some ⟨g, 0, none⟩), .pointer (some ⟨g, 0, none⟩), Value.agg #[.bool fs, .bool fw, .bool fa, .int .i64 fc, .int .i64 fn], .pointer (some ⟨g, 0, none⟩), Value.agg #[.bool xp, .bool xg, .int .i64 xc, .int .i64 xv, .int .i64 xq, Value.string xd], .pointer (some ⟨g, 0, none⟩), .int .i64 ↑v4, .bool false, undef, undef, undef, undef, undef, undef, undef, undef, V 0, V 1, V 2, V 3, V 4], defers := [] }
def dh7C (L : Nat → Bool) : Nat := (L 3).toNat
theorem dh7C_le (L : Nat → Bool) : dh7C L ≤ 1 := by
  have h3 := Bool.toNat_le (L 3)
  simp only [dh7C]
  omega
def dh7S (g base : Nat) (r1 bf bx : Nat) (fs fw fa : Bool) (fc fn : Int) (xp xg : Bool) (xc xv xq : Int) (xd : ByteArray) (a : Option Addr) (len cap v4 : Nat) : Nat → Value → World → Prop
  | 0, v, w => v = .agg #[.bool fs, .bool fw, .bool fa, .int .i64 fc, .int .i64 fn]
  | 1, v, w => v = .agg #[.bool xp, .bool xg, .int .i64 xc, .int .i64 xv, .int .i64 xq, .string xd]
  | 2, v, w => v = .pointer (some ⟨g, 0, none⟩)
  | 3, v, w => SNat 3 v
  | 4, v, w => ∃ x : Bool, v = .bool x
  | 7, v, w => ∃ x : Bool, v = .bool x
  | _, _, _ => True
theorem dh7S_keep {R : World → World → Prop} {g base : Nat} (r1 bf bx : Nat) (fs fw fa : Bool) (fc fn : Int) (xp xg : Bool) (xc xv xq : Int) (xd : ByteArray) (a : Option Addr) (len cap v4 : Nat) : ∀ (j : Nat) (v : Value) (w w' : World), R w w' → dh7S g base r1 bf bx fs fw fa fc fn xp xg xc xv xq xd a len cap v4 j v w → dh7S g base r1 bf bx fs fw fa fc fn xp xg xc xv xq xd a len cap v4 j v w' := by
  intro j v w w' h s
  match j, s with
  | 0, s => exact s
  | 1, s => exact s
  | 2, s => exact s
  | 3, s => exact s
  | 4, s => exact s
  | 5, s => trivial
  | 6, s => trivial
  | 7, s => exact s
  | _ + 8, s => trivial
def dhP (g r k : Nat) : Prop := k = g ∨ k = r ∨ k = r + 1
set_option maxRecDepth 100000 in
set_option maxHeartbeats 2000000 in
theorem DrawFarmHear_any (a : Option Addr) (len cap : Nat) (zs : List Int) (w : World) (h : IsRow .u8 w a len cap zs) :
    Calls Try.prog 8 #[.slice a len cap] w fun e w' => ∃ (fs fw fa : Bool) (fc fn : Int) (xp xg : Bool) (xc xv xq : Int) (xd : ByteArray) (room : Bool), -1 ≤ fn ∧ fn ≤ 256 ∧ -1 ≤ xc ∧ xc ≤ 1024 ∧ -1 ≤ xv ∧ xv ≤ 64 ∧ -1 ≤ xq ∧ xq ≤ 256 ∧ xd.size ≤ 54 ∧
      e = .returned (.tuple #[.agg #[.bool fs, .bool fw, .bool fa, .int .i64 fc, .int .i64 fn], .agg #[.bool xp, .bool xg, .int .i64 xc, .int .i64 xv, .int .i64 xq, .string xd], .bool room]) ∧ Below w.heap.size w w' := by
  have H : Hid (IsRow .u8 ((w.alloc (.cells #[.bool false, .bool false, .bool false, .int .i64 0, .int .i64 0] 24)).alloc (.cells #[.bool false, .bool false, .int .i64 0, .int .i64 0, .int .i64 0, .string ⟨#[]⟩] 26)) a len cap zs) := h.keep (((Below.refl _ _).alloc (Nat.le_refl _) _).alloc (by simp) _)
  clear h
  go_enter Try.func8, Try.ntmps8
  go_wp2_with fail
  refine (l1Open_any a len cap zs _ H.out).mono ?_
  rintro e w1 ⟨rfl, hb1, hr1⟩
  simp only [World.size_alloc] at hb1 hr1 ⊢
  have HG : Hid (w1.heap[w.heap.size]? = some (.cells #[.bool false, .bool false, .bool false, .int .i64 0, .int .i64 0] 24)) := get_below hb1 (get_alloc (get_new rfl) (by simp)) (by omega)
  have HQ : Hid (w1.heap[w.heap.size + 1]? = some (.cells #[.bool false, .bool false, .int .i64 0, .int .i64 0, .int .i64 0, .string ⟨#[]⟩] 26)) := get_below hb1 (get_new (by simp)) (by omega)
  have HW : Hid (Below w.heap.size w w1) := (((Below.refl _ _).alloc (Nat.le_refl _) _).alloc (by simp) _).trans (hb1.mono (by omega))
  obtain ⟨g, hgg⟩ : ∃ g, g = w.heap.size + 1 + 1 := ⟨_, rfl⟩
  rw [← hgg] at hr1 ⊢
  have HR : Hid (Rd 0 w1 g) := hr1
  have hgl : w.heap.size + 1 < g := by omega
  clear hb1 hr1 H hgg
  go_wp2_with fail
  refine (l15AnyFarm_any 0 g _ (by omega) HR.out).mono ?_
  rintro e w2 ⟨fs, fw, fa, fc, fn, hn0, hn1, rfl, ho2, hr2⟩
  have hg2 : g < w2.heap.size := hr2.lt
  have HG2 : Hid (w2.heap[w.heap.size]? = some (.cells #[.bool false, .bool false, .bool false, .int .i64 0, .int .i64 0] 24)) := get_only ho2 HG.out (by omega)
  have HQ2 : Hid (w2.heap[w.heap.size + 1]? = some (.cells #[.bool false, .bool false, .int .i64 0, .int .i64 0, .int .i64 0, .string ⟨#[]⟩] 26)) := get_only ho2 HQ.out (by omega)
  have HW2 : Hid (Below w.heap.size w w2) := HW.out.trans (ho2.below (by omega) HW.out.size)
  have HR : Hid (Rd 10 (w2.alloc (.cells #[.bool fs, .bool fw, .bool fa, .int .i64 fc, .int .i64 fn] 24)) g) := rdA hr2
  clear ho2 hr2 HG HQ HW
  go_wp2_with fail
  refine (l15AnyFrame_any 10 g _ (by omega) HR.out).mono ?_
  rintro e w3 ⟨xp, xg, xc, xv, xq, xd, hc0, hc1, hv0, hv1, hq0, hq1, hd, rfl, ho3, hr3⟩
  have hz3 : w2.heap.size < w3.heap.size := by have := ho3.size; simp at this; omega
  have HF3 : Hid (w3.heap[w2.heap.size]? = some (.cells #[.bool fs, .bool fw, .bool fa, .int .i64 fc, .int .i64 fn] 24)) := get_only ho3 (get_new rfl) (by omega)
  have HG3 : Hid (w3.heap[w.heap.size]? = some (.cells #[.bool false, .bool false, .bool false, .int .i64 0, .int .i64 0] 24)) := get_only ho3 (get_allocS HG2.out) (by omega)
  have HQ3 : Hid (w3.heap[w.heap.size + 1]? = some (.cells #[.bool false, .bool false, .int .i64 0, .int .i64 0, .int .i64 0, .string ⟨#[]⟩] 26)) := get_only ho3 (get_allocS HQ2.out) (by omega)
  have HW3 : Hid (Below w.heap.size w w3) := (HW2.out.alloc HW2.out.size _).trans (ho3.below (by omega) (by have := HW2.out.size; simp; omega))
  have HR : Hid (Rd 80 (w3.alloc (.cells #[.bool xp, .bool xg, .int .i64 xc, .int .i64 xv, .int .i64 xq, .string xd] 26)) g) := rdA hr3
  clear ho3 hr3 HG2 HQ2 HW2
  go_wp2_with fail
  refine (pickI 80 g _ _ (by omega) (by omega) (by omega) HR.out).mono ?_
  rintro e wr ⟨v4, hv4, rfl, ho4, hr4⟩
  have hz4 : w3.heap.size < wr.heap.size := by have := ho4.size; simp at this; omega
  have HX : Hid (wr.heap[w3.heap.size]? = some (.cells #[.bool xp, .bool xg, .int .i64 xc, .int .i64 xv, .int .i64 xq, .string xd] 26)) := get_only ho4 (get_new rfl) (by omega)
  have HF : Hid (wr.heap[w2.heap.size]? = some (.cells #[.bool fs, .bool fw, .bool fa, .int .i64 fc, .int .i64 fn] 24)) := get_only ho4 (get_allocS HF3.out) (by omega)
  have HG : Hid (wr.heap[w.heap.size]? = some (.cells #[.bool false, .bool false, .bool false, .int .i64 0, .int .i64 0] 24)) := get_only ho4 (get_allocS HG3.out) (by omega)
  have HQ : Hid (wr.heap[w.heap.size + 1]? = some (.cells #[.bool false, .bool false, .int .i64 0, .int .i64 0, .int .i64 0, .string ⟨#[]⟩] 26)) := get_only ho4 (get_allocS HQ3.out) (by omega)
  have HW : Hid (Below w.heap.size w wr) := (HW3.out.alloc HW3.out.size _).trans (ho4.below (by omega) (by have := HW3.out.size; simp; omega))
  have HR : Hid (Rd 81 wr g) := hr4
  clear ho4 hr4 HF3 HG3 HQ3 HW3
  have hbf : w2.heap.size ≠ g := by omega
  have hbx : w3.heap.size ≠ g := by omega
  have hgr : g < wr.heap.size := by omega
  have hbfx : w2.heap.size ≠ w3.heap.size := by omega
  have hrs : w.heap.size + 1 < w2.heap.size := by omega
  by_cases hpos : 0 < (v4 : Int)
  · have hdec : decide (0 < v4) = true := by simp; omega
    go_wp2_with fail
    obtain ⟨N, hN⟩ : ∃ N, N = 81 := ⟨_, rfl⟩
    have HR : Hid (Rd N wr g) := by rw [hN]; exact HR.out
    obtain ⟨B, hB⟩ : ∃ B, B = wr.heap.size := ⟨_, rfl⟩
    have hgB : g < B := by omega
    refine wp_region_slots (by kernel_rfl) (fun j => j == 8) (Only g) (dh5S g B (w.heap.size + 1) w2.heap.size w3.heap.size fs fw fa fc fn xp xg xc xv xq xd a len cap v4) (dh5T g w.heap.size (w.heap.size + 1) w2.heap.size w3.heap.size fs fw fa fc fn xp xg xc xv xq xd a len cap v4) (fun L W => Only g wr W ∧ Rd (N + dh5C L) W g) (fun L V W => Below w.heap.size w W ∧ Rd 82 W g ∧ W.heap[w.heap.size]? = some (.cells #[.bool false, .bool false, .bool false, .int .i64 0, .int .i64 0] 24) ∧ W.heap[w.heap.size + 1]? = some (.cells #[.bool false, .bool false, .int .i64 0, .int .i64 0, .int .i64 0, .string ⟨#[]⟩] 26) ∧ W.heap[w2.heap.size]? = some (.cells #[.bool fs, .bool fw, .bool fa, .int .i64 fc, .int .i64 fn] 24) ∧ ∃ q' : Int, 0 ≤ q' ∧ q' ≤ 255 ∧ V 6 = .int .i64 q' ∧ V 7 = .pointer (some ⟨w3.heap.size, 4, none⟩) ∧ W.heap[w3.heap.size]? = some (.cells #[.bool xp, .bool xg, .int .i64 xc, .int .i64 xv, .int .i64 (cond (L 8) q' xq), .string xd] 26)) _ (by kernel_rfl) (by kernel_rfl) (dh5S_keep hgB (w.heap.size + 1) w2.heap.size w3.heap.size fs fw fa fc fn xp xg xc xv xq xd a len cap v4) (fun _ => undef) _ rfl ?_ ⟨(Only.refl _ _).drew, HR.out.below ((Below.refl _ _).drew)⟩ ?_ ?_ ?_
    · exact StepAll.cons (fun V v => rfl) (StepAll.cons (fun V v => rfl) (StepAll.cons (fun V v => rfl) (StepAll.cons (fun V v => rfl) (StepAll.cons (fun V v => rfl) (StepAll.cons (fun V v => rfl) (StepAll.cons (fun V v => rfl) (StepAll.cons (fun V v => rfl) (StepAll.cons (fun V v => rfl) StepAll.nil))))))))
    · intro L V W hS hnf hG
      obtain ⟨q', h1, h2, e6⟩ : SInt 0 255 (V 6) := (hS 6 (by decide) rfl).1
      have e7 : V 7 = .pointer (some ⟨w3.heap.size, 4, none⟩) := (hS 7 (by decide) rfl).1
      have h8 : L 8 = false := hnf 8 (by decide) rfl
      have hC : dh5C L = 1 := by simp only [dh5C, (hS 4 (by decide) rfl).2]; rfl
      have hr := hG.2
      rw [hC, hN] at hr
      exact ⟨HW.out.trans (hG.1.below (by omega) HW.out.size), hr, get_only hG.1 HG.out (by omega), get_only hG.1 HQ.out (by omega), get_only hG.1 HF.out hbf, q', h1, h2, e6, e7, by rw [h8]; exact get_only hG.1 HX.out hbx⟩
    · intro L U wq hZ hall
      obtain ⟨hbw, hrd, hg0, hg1, hff, q', hq0', hq1', e6, e7, hxx⟩ := hZ
      rw [hall 8 (by decide)] at hxx
      dsimp only [cond] at hxx
      dsimp only [dh5T]
      rw [e6, e7]
      have HW : Hid (Below w.heap.size w wq) := hbw
      have HR : Hid (Rd 82 wq g) := hrd
      have HG : Hid (wq.heap[w.heap.size]? = some (.cells #[.bool false, .bool false, .bool false, .int .i64 0, .int .i64 0] 24)) := hg0
      have HQ : Hid (wq.heap[w.heap.size + 1]? = some (.cells #[.bool false, .bool false, .int .i64 0, .int .i64 0, .int .i64 0, .string ⟨#[]⟩] 26)) := hg1
      have HF : Hid (wq.heap[w2.heap.size]? = some (.cells #[.bool fs, .bool fw, .bool fa, .int .i64 fc, .int .i64 fn] 24)) := hff
      have HX : Hid (wq.heap[w3.heap.size]? = some (.cells #[.bool xp, .bool xg, .int .i64 xc, .int .i64 xv, .int .i64 q', .string xd] 26)) := hxx
      have hgr' : g < wq.heap.size := hrd.lt
      clear hbw hrd hg0 hg1 hff hxx e6 e7 hall
      go_wp2_with fail
      obtain ⟨N, hN⟩ : ∃ N, N = 82 := ⟨_, rfl⟩
      have HR : Hid (Rd N wq g) := by rw [hN]; exact HR.out
      obtain ⟨B, hB⟩ : ∃ B, B = wq.heap.size := ⟨_, rfl⟩
      have hpf : ¬ dhP g w.heap.size w2.heap.size := by unfold dhP; omega
      have hpx : ¬ dhP g w.heap.size w3.heap.size := by unfold dhP; omega
      have hpl : ∀ k, k < w.heap.size → ¬ dhP g w.heap.size k := by unfold dhP; omega
      have hne0 : w.heap.size ≠ g := by omega
      have hne1 : w.heap.size + 1 ≠ g := by omega
      refine wp_region_slots (by kernel_rfl) (fun j => false) (OnlyP (dhP g w.heap.size)) (dh6S g B (w.heap.size + 1) w2.heap.size w3.heap.size fs fw fa fc fn xp xg xc xv xq xd a len cap v4 U q') (dh6T g w.heap.size (w.heap.size + 1) w2.heap.size w3.heap.size fs fw fa fc fn xp xg xc xv xq xd a len cap v4 U q') (fun L W => OnlyP (dhP g w.heap.size) wq W ∧ Rd (N + dh6C L) W g ∧ W.heap[w.heap.size]? = some (.cells (cond (L 5) #[.bool fs, .bool fw, .bool fa, .int .i64 fc, .int .i64 fn] #[.bool false, .bool false, .bool false, .int .i64 0, .int .i64 0]) 24) ∧ W.heap[w.heap.size + 1]? = some (.cells (cond (L 6) #[.bool xp, .bool xg, .int .i64 xc, .int .i64 xv, .int .i64 q', .string xd] #[.bool false, .bool false, .int .i64 0, .int .i64 0, .int .i64 0, .string ⟨#[]⟩]) 26)) (fun L V W => V 0 = .agg #[.bool fs, .bool fw, .bool fa, .int .i64 fc, .int .i64 fn] ∧ V 1 = .agg #[.bool xp, .bool xg, .int .i64 xc, .int .i64 xv, .int .i64 q', .string xd] ∧ (∃ t : Bool, V 4 = .bool t) ∧ (∃ t : Bool, V 7 = .bool t) ∧ OnlyP (dhP g w.heap.size) wq W ∧ W.heap[w.heap.size]? = some (.cells #[.bool fs, .bool fw, .bool fa, .int .i64 fc, .int .i64 fn] 24) ∧ W.heap[w.heap.size + 1]? = some (.cells #[.bool xp, .bool xg, .int .i64 xc, .int .i64 xv, .int .i64 q', .string xd] 26)) _ (by kernel_rfl) (by kernel_rfl) (dh6S_keep (w.heap.size + 1) w2.heap.size w3.heap.size fs fw fa fc fn xp xg xc xv xq xd a len cap v4 U q') (fun j => if j = 7 then .bool false else undef) _ rfl ?_ ⟨(OnlyP.refl _ _).drew, HR.out.below ((Below.refl _ _).drew), HG.out, HQ.out⟩ ?_ ?_ ?_
      · exact StepAll.cons (fun V v => rfl) (StepAll.cons (fun V v => rfl) (StepAll.cons (fun V v => rfl) (StepAll.cons (fun V v => rfl) (StepAll.cons (fun V v => rfl) (StepAll.cons (fun V v => rfl) (StepAll.cons (fun V v => rfl) (StepAll.cons (fun V v => rfl) StepAll.nil)))))))
      · intro L V W hS hnf hG
        obtain ⟨hg1, hg2, hg3, hg4⟩ := hG
        rw [(hS 5 (by decide) rfl).2] at hg3
        rw [(hS 6 (by decide) rfl).2] at hg4
        exact ⟨(hS 0 (by decide) rfl).1, (hS 1 (by decide) rfl).1, (hS 4 (by decide) rfl).1, (hS 7 (by decide) rfl).1, hg1, hg3, hg4⟩
      · intro L V W hZ hall
        obtain ⟨e0, e1, ⟨t4, e4⟩, ⟨t, e7⟩, hop, hg0, hg1⟩ := hZ
        have HB : Hid (Below w.heap.size w W) := HW.out.trans (hop.below hpl HW.out.size)
        dsimp only [dh6T]
        rw [e0, e1, e4, e7]
        have HG : Hid _ := hg0
        have HQ : Hid _ := hg1
        clear hop hg0 hg1 hall e0 e1 e4 e7
        go_wp2_with fail
        exact bodyPost_ret (v := .tuple #[.agg #[.bool fs, .bool fw, .bool fa, .int .i64 fc, .int .i64 fn], .agg #[.bool xp, .bool xg, .int .i64 xc, .int .i64 xv, .int .i64 q', .string xd], .bool t]) (results_row_row_tmp Try.results8 _ _ w.heap.size 24 #[.bool fs, .bool fw, .bool fa, .int .i64 fc, .int .i64 fn] (0, 0) _ rfl HG.out Try.underlying24 rfl cellsFarm (w.heap.size + 1) 26 #[.bool xp, .bool xg, .int .i64 xc, .int .i64 xv, .int .i64 q', .string xd] (0, 0) _ rfl HQ.out Try.underlying26 rfl cells26 (.bool t) rfl) rfl ⟨_, _, _, _, _, _, _, _, _, _, _, _, by omega, by omega, by omega, by omega, by omega, by omega, by omega, by omega, by omega, rfl, HB.out⟩
      refine stepN rfl rfl ?_ (stepN rfl rfl ?_ (stepN rfl rfl ?_ (stepN rfl rfl ?_ (stepN rfl rfl ?_ (stepN rfl rfl ?_ (stepN rfl rfl ?_ (stepN rfl rfl ?_ (StepAll.nil))))))))
      · intro L V W hV hG hL K hK
        dsimp only [dh6T] at hK ⊢
        have hcu : dh6C (updL L 0) = dh6C L := by simp only [dh6C, updL]; simp
        obtain ⟨m0, m1, m2, m3, m4⟩ := cells5_of (get_onlyP hG.1 HF.out hpf)
        go_simp
        exact hK _ (.agg #[.bool fs, .bool fw, .bool fa, .int .i64 fc, .int .i64 fn]) _ rfl (OnlyP.refl _ _) ⟨hG.1, by rw [hcu]; exact hG.2.1, hG.2.2.1, hG.2.2.2⟩ rfl
      · intro L V W hV hG hL K hK
        dsimp only [dh6T] at hK ⊢
        have hcu : dh6C (updL L 1) = dh6C L := by simp only [dh6C, updL]; simp
        obtain ⟨m0, m1, m2, m3, m4, m5⟩ := cells6_of (get_onlyP hG.1 HX.out hpx)
        go_simp
        exact hK _ (.agg #[.bool xp, .bool xg, .int .i64 xc, .int .i64 xv, .int .i64 q', .string xd]) _ rfl (OnlyP.refl _ _) ⟨hG.1, by rw [hcu]; exact hG.2.1, hG.2.2.1, hG.2.2.2⟩ rfl
      · intro L V W hV hG hL K hK
        dsimp only [dh6T] at hK ⊢
        have hcu : dh6C (updL L 2) = dh6C L := by simp only [dh6C, updL]; simp
        go_simp
        exact hK _ (.pointer (some ⟨g, 0, none⟩)) _ rfl (OnlyP.refl _ _) ⟨hG.1, by rw [hcu]; exact hG.2.1, hG.2.2.1, hG.2.2.2⟩ rfl
      · intro L V W hV hG hL K hK
        dsimp only [dh6T] at hK ⊢
        have e2 : (V 2) = .pointer (some ⟨g, 0, none⟩) := hV 2 (by kernel_rfl)
        rw [e2] at hK ⊢
        clear e2
        have hcb := dh6C_le L
        have hcu : dh6C (updL L 3) = dh6C L + 1 := by simp only [dh6C, updL, hL]; simp <;> omega
        go_simp
        refine (pickI (N + dh6C L) g 4 W (by omega) (by decide) (by decide) hG.2.1).mono ?_
        rintro e w1 ⟨v, hv, rfl, ho, hr⟩
        exact hK _ (.int .i64 (v : Int)) _ rfl (OnlyP.of_only (.inl rfl) ho) ⟨hG.1.trans (OnlyP.of_only (.inl rfl) ho), hr.mono (by rw [hcu]; omega), get_only ho hG.2.2.1 hne0, get_only ho hG.2.2.2 hne1⟩ ⟨v, by omega, rfl⟩
      · intro L V W hV hG hL K hK
        dsimp only [dh6T] at hK ⊢
        have hcu : dh6C (updL L 4) = dh6C L := by simp only [dh6C, updL]; simp
        have h3 : SNat 3 (V 3) := hV 3 (by kernel_rfl)
        obtain ⟨x3, hx3, e3⟩ := h3
        rw [e3] at hK ⊢
        clear e3
        go_simp
        exact hK _ _ _ rfl (OnlyP.refl _ _) ⟨hG.1, by rw [hcu]; exact hG.2.1, hG.2.2.1, hG.2.2.2⟩ ⟨_, rfl⟩
      · intro L V W hV hG hL K hK
        dsimp only [dh6T] at hK ⊢
        have hcu : dh6C (updL L 5) = dh6C L := by simp only [dh6C, updL]; simp
        have e0 : (V 0) = .agg #[.bool fs, .bool fw, .bool fa, .int .i64 fc, .int .i64 fn] := hV 0 (by kernel_rfl)
        rw [e0] at hK ⊢
        clear e0
        have hz := hG.2.2.1
        rw [hL] at hz
        dsimp only [cond] at hz
        obtain ⟨m0, m1, m2, m3, m4⟩ := cells5_of hz
        have f1 : ∀ j, W.frozen? ⟨w.heap.size, j, none⟩ = false := fun j => frozen_get hz
        have hpb : dhP g w.heap.size (w.heap.size) := .inr (.inl rfl)
        go_simp
        exact hK _ undef _ rfl (OnlyP.set (OnlyP.set (OnlyP.set (OnlyP.set (OnlyP.set (OnlyP.refl _ _) hpb) hpb) hpb) hpb) hpb) ⟨OnlyP.set (OnlyP.set (OnlyP.set (OnlyP.set (OnlyP.set (hG.1) hpb) hpb) hpb) hpb) hpb, by rw [hcu]; exact hG.2.1.keepT (by omega) hz (noU8 (by simp)) (OnlyP.set (OnlyP.set (OnlyP.set (OnlyP.set (OnlyP.set (OnlyP.refl _ _) rfl) rfl) rfl) rfl) rfl), get_set (get_set (get_set (get_set (get_set (hz) rfl) rfl) rfl) rfl) rfl, get_set_ne (get_set_ne (get_set_ne (get_set_ne (get_set_ne (hG.2.2.2) (by omega)) (by omega)) (by omega)) (by omega)) (by omega)⟩ trivial
      · intro L V W hV hG hL K hK
        dsimp only [dh6T] at hK ⊢
        have hcu : dh6C (updL L 6) = dh6C L := by simp only [dh6C, updL]; simp
        have e1 : (V 1) = .agg #[.bool xp, .bool xg, .int .i64 xc, .int .i64 xv, .int .i64 q', .string xd] := hV 1 (by kernel_rfl)
        rw [e1] at hK ⊢
        clear e1
        have hz := hG.2.2.2
        rw [hL] at hz
        dsimp only [cond] at hz
        obtain ⟨m0, m1, m2, m3, m4, m5⟩ := cells6_of hz
        have f1 : ∀ j, W.frozen? ⟨w.heap.size + 1, j, none⟩ = false := fun j => frozen_get hz
        have hpb : dhP g w.heap.size (w.heap.size + 1) := .inr (.inr rfl)
        go_simp
        exact hK _ undef _ rfl (OnlyP.set (OnlyP.set (OnlyP.set (OnlyP.set (OnlyP.set (OnlyP.set (OnlyP.refl _ _) hpb) hpb) hpb) hpb) hpb) hpb) ⟨OnlyP.set (OnlyP.set (OnlyP.set (OnlyP.set (OnlyP.set (OnlyP.set (hG.1) hpb) hpb) hpb) hpb) hpb) hpb, by rw [hcu]; exact hG.2.1.keepT (by omega) hz (noU8 (by simp)) (OnlyP.set (OnlyP.set (OnlyP.set (OnlyP.set (OnlyP.set (OnlyP.set (OnlyP.refl _ _) rfl) rfl) rfl) rfl) rfl) rfl), get_set_ne (get_set_ne (get_set_ne (get_set_ne (get_set_ne (get_set_ne (hG.2.2.1) (by omega)) (by omega)) (by omega)) (by omega)) (by omega)) (by omega), get_set (get_set (get_set (get_set (get_set (get_set (hz) rfl) rfl) rfl) rfl) rfl) rfl⟩ trivial
      · intro L V W hV hG hL K hK
        dsimp only [dh6T] at hK ⊢
        have hcu : dh6C (updL L 7) = dh6C L := by simp only [dh6C, updL]; simp
        have h4 : ∃ x : Bool, (V 4) = .bool x := hV 4 (by kernel_rfl)
        obtain ⟨x4, e4⟩ := h4
        rw [e4] at hK ⊢
        clear e4
        go_simp
        exact hK _ (.bool x4) _ rfl (OnlyP.refl _ _) ⟨hG.1, by rw [hcu]; exact hG.2.1, hG.2.2.1, hG.2.2.2⟩ ⟨_, rfl⟩
    refine stepN rfl rfl ?_ (stepN rfl rfl ?_ (stepN rfl rfl ?_ (stepN rfl rfl ?_ (stepN rfl rfl ?_ (stepN rfl rfl ?_ (stepN rfl rfl ?_ (stepN rfl rfl ?_ (stepF rfl rfl ?_ (StepAll.nil)))))))))
    · intro L V W hV hG hL K hK
      dsimp only [dh5T] at hK ⊢
      have hcu : dh5C (updL L 0) = dh5C L := by simp only [dh5C, updL]; simp
      go_simp
      exact hK _ (.pointer (some ⟨w2.heap.size, 4, none⟩)) _ rfl (Only.refl _ _) ⟨hG.1, by rw [hcu]; exact hG.2⟩ rfl
    · intro L V W hV hG hL K hK
      dsimp only [dh5T] at hK ⊢
      have hcu : dh5C (updL L 1) = dh5C L := by simp only [dh5C, updL]; simp
      have h0 : (V 0) = .pointer (some ⟨w2.heap.size, 4, none⟩) := hV 0 (by kernel_rfl)
      have e0 := h0
      rw [e0] at hK ⊢
      clear e0
      have hcl : W.cell? ⟨w2.heap.size, 4, none⟩ = some (.int .i64 fn) := cell_get (get_only hG.1 HF.out hbf) rfl
      go_simp
      exact hK _ (.int .i64 fn) _ rfl (Only.refl _ _) ⟨hG.1, by rw [hcu]; exact hG.2⟩ rfl
    · intro L V W hV hG hL K hK
      dsimp only [dh5T] at hK ⊢
      have hcu : dh5C (updL L 2) = dh5C L := by simp only [dh5C, updL]; simp
      go_simp
      exact hK _ (.pointer (some ⟨g, 0, none⟩)) _ rfl (Only.refl _ _) ⟨hG.1, by rw [hcu]; exact hG.2⟩ rfl
    · intro L V W hV hG hL K hK
      dsimp only [dh5T] at hK ⊢
      have hcu : dh5C (updL L 3) = dh5C L := by simp only [dh5C, updL]; simp
      go_simp
      exact hK _ (.slice (some ⟨W.heap.size, 0, none⟩) 12 12) _ rfl ((Only.refl _ _).alloc _) ⟨hG.1.alloc _, by rw [hcu]; exact rdA hG.2⟩ (SInts.new [0, 0, 0, 1, 3, 7, 8, (-1), (-8), (-7), (-9), 128] 12 rfl (Nat.le_trans (Nat.le_of_eq hB) hG.1.size) (by simp only [List.mem_cons, List.not_mem_nil, or_false, forall_eq_or_imp, forall_eq]; omega))
    · intro L V W hV hG hL K hK
      dsimp only [dh5T] at hK ⊢
      have h2 : (V 2) = .pointer (some ⟨g, 0, none⟩) := hV 2 (by kernel_rfl)
      have e2 := h2
      have h3 : SInts B 12 (-9) 128 (V 3) W := hV 3 (by kernel_rfl)
      obtain ⟨b3, hb3, hz3, e3, hc3⟩ := h3
      rw [e2, e3] at hK ⊢
      clear e2 e3
      have hcb := dh5C_le L
      have hcu : dh5C (updL L 4) = dh5C L + 1 := by simp only [dh5C, updL, hL]; simp <;> omega
      go_simp
      refine (one_in (N + dh5C L) 12 (-9) 128 (by omega) (by decide) (by decide) hG.2 hgB b3 hb3 hc3).mono ?_
      rintro e w1 ⟨v, hv1, hv2, rfl, ho, hr⟩
      exact hK _ (.int .i64 v) _ rfl ho ⟨hG.1.trans ho, hr.mono (by rw [hcu]; omega)⟩ ⟨v, hv1, hv2, rfl⟩
    · intro L V W hV hG hL K hK
      dsimp only [dh5T] at hK ⊢
      have hcu : dh5C (updL L 5) = dh5C L := by simp only [dh5C, updL]; simp
      have h1 : (V 1) = .int .i64 fn := hV 1 (by kernel_rfl)
      have e1 := h1
      have h4 : SInt (-9) 128 (V 4) := hV 4 (by kernel_rfl)
      obtain ⟨x4, hx4, hy4, e4⟩ := h4
      rw [e1, e4] at hK ⊢
      clear e1 e4
      go_simp
      first | exact hK _ (.int .i64 ( fn + x4)) _ rfl (Only.refl _ _) ⟨hG.1, by rw [hcu]; exact hG.2⟩ ⟨ fn + x4, by omega, by omega, rfl⟩ | exact hK _ (.int .i64 (IntKind.i64.wrap ( fn + x4))) _ rfl (Only.refl _ _) ⟨hG.1, by rw [hcu]; exact hG.2⟩ ⟨ fn + x4, by omega, by omega, by rw [wrap_in _ (by omega) (by omega)]⟩
    · intro L V W hV hG hL K hK
      dsimp only [dh5T] at hK ⊢
      have hcu : dh5C (updL L 6) = dh5C L := by simp only [dh5C, updL]; simp
      have h5 : SInt (-10) 384 (V 5) := hV 5 (by kernel_rfl)
      obtain ⟨x5, hx5, hy5, e5⟩ := h5
      rw [e5] at hK ⊢
      clear e5
      go_simp
      refine (l4Mod_any x5 W (by omega) (by omega)).mono ?_
      rintro e w1 ⟨rfl, rfl⟩
      exact hK _ (.int .i64 (x5 % 256)) _ rfl (Only.refl _ _) ⟨hG.1, by rw [hcu]; exact hG.2⟩ ⟨x5 % 256, by omega, by omega, rfl⟩
    · intro L V W hV hG hL K hK
      dsimp only [dh5T] at hK ⊢
      have hcu : dh5C (updL L 7) = dh5C L := by simp only [dh5C, updL]; simp
      go_simp
      exact hK _ (.pointer (some ⟨w3.heap.size, 4, none⟩)) _ rfl (Only.refl _ _) ⟨hG.1, by rw [hcu]; exact hG.2⟩ rfl
    · intro L V W hZ hL K hK
      obtain ⟨hbw, hrd, hg0, hg1, hff, q', hq0', hq1', e6, e7, hxx⟩ := hZ
      rw [hL] at hxx
      dsimp only [cond] at hxx
      dsimp only [dh5T] at hK ⊢
      rw [e6, e7] at hK ⊢
      obtain ⟨j0, j1, j2, j3, j4, j5⟩ := cells6_of hxx
      have f1 : ∀ j, W.frozen? ⟨w3.heap.size, j, none⟩ = false := fun j => frozen_get hxx
      go_simp
      exact hK _ undef _ rfl ⟨belowS hbw (by omega), rdS hrd (by omega), get_set_ne hg0 (by omega), get_set_ne hg1 (by omega), get_set_ne hff (by omega), q', hq0', hq1', e6, e7, get_set hxx rfl⟩
  · have hdec : decide (0 < v4) = false := by simp; omega
    go_wp2_with fail
    obtain ⟨N, hN⟩ : ∃ N, N = 81 := ⟨_, rfl⟩
    have HR : Hid (Rd N wr g) := by rw [hN]; exact HR.out
    obtain ⟨B, hB⟩ : ∃ B, B = wr.heap.size := ⟨_, rfl⟩
    have hpf : ¬ dhP g w.heap.size w2.heap.size := by unfold dhP; omega
    have hpx : ¬ dhP g w.heap.size w3.heap.size := by unfold dhP; omega
    have hpl : ∀ k, k < w.heap.size → ¬ dhP g w.heap.size k := by unfold dhP; omega
    have hne0 : w.heap.size ≠ g := by omega
    have hne1 : w.heap.size + 1 ≠ g := by omega
    refine wp_region_slots (by kernel_rfl) (fun j => false) (OnlyP (dhP g w.heap.size)) (dh7S g B (w.heap.size + 1) w2.heap.size w3.heap.size fs fw fa fc fn xp xg xc xv xq xd a len cap v4) (dh7T g w.heap.size (w.heap.size + 1) w2.heap.size w3.heap.size fs fw fa fc fn xp xg xc xv xq xd a len cap v4) (fun L W => OnlyP (dhP g w.heap.size) wr W ∧ Rd (N + dh7C L) W g ∧ W.heap[w.heap.size]? = some (.cells (cond (L 5) #[.bool fs, .bool fw, .bool fa, .int .i64 fc, .int .i64 fn] #[.bool false, .bool false, .bool false, .int .i64 0, .int .i64 0]) 24) ∧ W.heap[w.heap.size + 1]? = some (.cells (cond (L 6) #[.bool xp, .bool xg, .int .i64 xc, .int .i64 xv, .int .i64 xq, .string xd] #[.bool false, .bool false, .int .i64 0, .int .i64 0, .int .i64 0, .string ⟨#[]⟩]) 26)) (fun L V W => V 0 = .agg #[.bool fs, .bool fw, .bool fa, .int .i64 fc, .int .i64 fn] ∧ V 1 = .agg #[.bool xp, .bool xg, .int .i64 xc, .int .i64 xv, .int .i64 xq, .string xd] ∧ (∃ t : Bool, V 4 = .bool t) ∧ (∃ t : Bool, V 7 = .bool t) ∧ OnlyP (dhP g w.heap.size) wr W ∧ W.heap[w.heap.size]? = some (.cells #[.bool fs, .bool fw, .bool fa, .int .i64 fc, .int .i64 fn] 24) ∧ W.heap[w.heap.size + 1]? = some (.cells #[.bool xp, .bool xg, .int .i64 xc, .int .i64 xv, .int .i64 xq, .string xd] 26)) _ (by kernel_rfl) (by kernel_rfl) (dh7S_keep (w.heap.size + 1) w2.heap.size w3.heap.size fs fw fa fc fn xp xg xc xv xq xd a len cap v4) (fun j => if j = 7 then .bool false else undef) _ rfl ?_ ⟨(OnlyP.refl _ _).drew, HR.out.below ((Below.refl _ _).drew), HG.out, HQ.out⟩ ?_ ?_ ?_
    · exact StepAll.cons (fun V v => rfl) (StepAll.cons (fun V v => rfl) (StepAll.cons (fun V v => rfl) (StepAll.cons (fun V v => rfl) (StepAll.cons (fun V v => rfl) (StepAll.cons (fun V v => rfl) (StepAll.cons (fun V v => rfl) (StepAll.cons (fun V v => rfl) StepAll.nil)))))))
    · intro L V W hS hnf hG
      obtain ⟨hg1, hg2, hg3, hg4⟩ := hG
      rw [(hS 5 (by decide) rfl).2] at hg3
      rw [(hS 6 (by decide) rfl).2] at hg4
      exact ⟨(hS 0 (by decide) rfl).1, (hS 1 (by decide) rfl).1, (hS 4 (by decide) rfl).1, (hS 7 (by decide) rfl).1, hg1, hg3, hg4⟩
    · intro L V W hZ hall
      obtain ⟨e0, e1, ⟨t4, e4⟩, ⟨t, e7⟩, hop, hg0, hg1⟩ := hZ
      have HB : Hid (Below w.heap.size w W) := HW.out.trans (hop.below hpl HW.out.size)
      dsimp only [dh7T]
      rw [e0, e1, e4, e7]
      have HG : Hid _ := hg0
      have HQ : Hid _ := hg1
      clear hop hg0 hg1 hall e0 e1 e4 e7
      go_wp2_with fail
      exact bodyPost_ret (v := .tuple #[.agg #[.bool fs, .bool fw, .bool fa, .int .i64 fc, .int .i64 fn], .agg #[.bool xp, .bool xg, .int .i64 xc, .int .i64 xv, .int .i64 xq, .string xd], .bool t]) (results_row_row_tmp Try.results8 _ _ w.heap.size 24 #[.bool fs, .bool fw, .bool fa, .int .i64 fc, .int .i64 fn] (0, 0) _ rfl HG.out Try.underlying24 rfl cellsFarm (w.heap.size + 1) 26 #[.bool xp, .bool xg, .int .i64 xc, .int .i64 xv, .int .i64 xq, .string xd] (0, 0) _ rfl HQ.out Try.underlying26 rfl cells26 (.bool t) rfl) rfl ⟨_, _, _, _, _, _, _, _, _, _, _, _, by omega, by omega, by omega, by omega, by omega, by omega, by omega, by omega, by omega, rfl, HB.out⟩
    refine stepN rfl rfl ?_ (stepN rfl rfl ?_ (stepN rfl rfl ?_ (stepN rfl rfl ?_ (stepN rfl rfl ?_ (stepN rfl rfl ?_ (stepN rfl rfl ?_ (stepN rfl rfl ?_ (StepAll.nil))))))))
    · intro L V W hV hG hL K hK
      dsimp only [dh7T] at hK ⊢
      have hcu : dh7C (updL L 0) = dh7C L := by simp only [dh7C, updL]; simp
      obtain ⟨m0, m1, m2, m3, m4⟩ := cells5_of (get_onlyP hG.1 HF.out hpf)
      go_simp
      exact hK _ (.agg #[.bool fs, .bool fw, .bool fa, .int .i64 fc, .int .i64 fn]) _ rfl (OnlyP.refl _ _) ⟨hG.1, by rw [hcu]; exact hG.2.1, hG.2.2.1, hG.2.2.2⟩ rfl
    · intro L V W hV hG hL K hK
      dsimp only [dh7T] at hK ⊢
      have hcu : dh7C (updL L 1) = dh7C L := by simp only [dh7C, updL]; simp
      obtain ⟨m0, m1, m2, m3, m4, m5⟩ := cells6_of (get_onlyP hG.1 HX.out hpx)
      go_simp
      exact hK _ (.agg #[.bool xp, .bool xg, .int .i64 xc, .int .i64 xv, .int .i64 xq, .string xd]) _ rfl (OnlyP.refl _ _) ⟨hG.1, by rw [hcu]; exact hG.2.1, hG.2.2.1, hG.2.2.2⟩ rfl
    · intro L V W hV hG hL K hK
      dsimp only [dh7T] at hK ⊢
      have hcu : dh7C (updL L 2) = dh7C L := by simp only [dh7C, updL]; simp
      go_simp
      exact hK _ (.pointer (some ⟨g, 0, none⟩)) _ rfl (OnlyP.refl _ _) ⟨hG.1, by rw [hcu]; exact hG.2.1, hG.2.2.1, hG.2.2.2⟩ rfl
    · intro L V W hV hG hL K hK
      dsimp only [dh7T] at hK ⊢
      have e2 : (V 2) = .pointer (some ⟨g, 0, none⟩) := hV 2 (by kernel_rfl)
      rw [e2] at hK ⊢
      clear e2
      have hcb := dh7C_le L
      have hcu : dh7C (updL L 3) = dh7C L + 1 := by simp only [dh7C, updL, hL]; simp <;> omega
      go_simp
      refine (pickI (N + dh7C L) g 4 W (by omega) (by decide) (by decide) hG.2.1).mono ?_
      rintro e w1 ⟨v, hv, rfl, ho, hr⟩
      exact hK _ (.int .i64 (v : Int)) _ rfl (OnlyP.of_only (.inl rfl) ho) ⟨hG.1.trans (OnlyP.of_only (.inl rfl) ho), hr.mono (by rw [hcu]; omega), get_only ho hG.2.2.1 hne0, get_only ho hG.2.2.2 hne1⟩ ⟨v, by omega, rfl⟩
    · intro L V W hV hG hL K hK
      dsimp only [dh7T] at hK ⊢
      have hcu : dh7C (updL L 4) = dh7C L := by simp only [dh7C, updL]; simp
      have h3 : SNat 3 (V 3) := hV 3 (by kernel_rfl)
      obtain ⟨x3, hx3, e3⟩ := h3
      rw [e3] at hK ⊢
      clear e3
      go_simp
      exact hK _ _ _ rfl (OnlyP.refl _ _) ⟨hG.1, by rw [hcu]; exact hG.2.1, hG.2.2.1, hG.2.2.2⟩ ⟨_, rfl⟩
    · intro L V W hV hG hL K hK
      dsimp only [dh7T] at hK ⊢
      have hcu : dh7C (updL L 5) = dh7C L := by simp only [dh7C, updL]; simp
      have e0 : (V 0) = .agg #[.bool fs, .bool fw, .bool fa, .int .i64 fc, .int .i64 fn] := hV 0 (by kernel_rfl)
      rw [e0] at hK ⊢
      clear e0
      have hz := hG.2.2.1
      rw [hL] at hz
      dsimp only [cond] at hz
      obtain ⟨m0, m1, m2, m3, m4⟩ := cells5_of hz
      have f1 : ∀ j, W.frozen? ⟨w.heap.size, j, none⟩ = false := fun j => frozen_get hz
      have hpb : dhP g w.heap.size (w.heap.size) := .inr (.inl rfl)
      go_simp
      exact hK _ undef _ rfl (OnlyP.set (OnlyP.set (OnlyP.set (OnlyP.set (OnlyP.set (OnlyP.refl _ _) hpb) hpb) hpb) hpb) hpb) ⟨OnlyP.set (OnlyP.set (OnlyP.set (OnlyP.set (OnlyP.set (hG.1) hpb) hpb) hpb) hpb) hpb, by rw [hcu]; exact hG.2.1.keepT (by omega) hz (noU8 (by simp)) (OnlyP.set (OnlyP.set (OnlyP.set (OnlyP.set (OnlyP.set (OnlyP.refl _ _) rfl) rfl) rfl) rfl) rfl), get_set (get_set (get_set (get_set (get_set (hz) rfl) rfl) rfl) rfl) rfl, get_set_ne (get_set_ne (get_set_ne (get_set_ne (get_set_ne (hG.2.2.2) (by omega)) (by omega)) (by omega)) (by omega)) (by omega)⟩ trivial
    · intro L V W hV hG hL K hK
      dsimp only [dh7T] at hK ⊢
      have hcu : dh7C (updL L 6) = dh7C L := by simp only [dh7C, updL]; simp
      have e1 : (V 1) = .agg #[.bool xp, .bool xg, .int .i64 xc, .int .i64 xv, .int .i64 xq, .string xd] := hV 1 (by kernel_rfl)
      rw [e1] at hK ⊢
      clear e1
      have hz := hG.2.2.2
      rw [hL] at hz
      dsimp only [cond] at hz
      obtain ⟨m0, m1, m2, m3, m4, m5⟩ := cells6_of hz
      have f1 : ∀ j, W.frozen? ⟨w.heap.size + 1, j, none⟩ = false := fun j => frozen_get hz
      have hpb : dhP g w.heap.size (w.heap.size + 1) := .inr (.inr rfl)
      go_simp
      exact hK _ undef _ rfl (OnlyP.set (OnlyP.set (OnlyP.set (OnlyP.set (OnlyP.set (OnlyP.set (OnlyP.refl _ _) hpb) hpb) hpb) hpb) hpb) hpb) ⟨OnlyP.set (OnlyP.set (OnlyP.set (OnlyP.set (OnlyP.set (OnlyP.set (hG.1) hpb) hpb) hpb) hpb) hpb) hpb, by rw [hcu]; exact hG.2.1.keepT (by omega) hz (noU8 (by simp)) (OnlyP.set (OnlyP.set (OnlyP.set (OnlyP.set (OnlyP.set (OnlyP.set (OnlyP.refl _ _) rfl) rfl) rfl) rfl) rfl) rfl), get_set_ne (get_set_ne (get_set_ne (get_set_ne (get_set_ne (get_set_ne (hG.2.2.1) (by omega)) (by omega)) (by omega)) (by omega)) (by omega)) (by omega), get_set (get_set (get_set (get_set (get_set (get_set (hz) rfl) rfl) rfl) rfl) rfl) rfl⟩ trivial
    · intro L V W hV hG hL K hK
      dsimp only [dh7T] at hK ⊢
      have hcu : dh7C (updL L 7) = dh7C L := by simp only [dh7C, updL]; simp
      have h4 : ∃ x : Bool, (V 4) = .bool x := hV 4 (by kernel_rfl)
      obtain ⟨x4, e4⟩ := h4
      rw [e4] at hK ⊢
      clear e4
      go_simp
      exact hK _ (.bool x4) _ rfl (OnlyP.refl _ _) ⟨hG.1, by rw [hcu]; exact hG.2.1, hG.2.2.1, hG.2.2.2⟩ ⟨_, rfl⟩
end Go.Proofs.Ytfojljhpobdcdaa
