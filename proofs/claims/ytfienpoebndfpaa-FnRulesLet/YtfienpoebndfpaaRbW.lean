/- (*impl.ruleBook).add. -/
import Derived.Test.YtfienpoebndfpaaRbM
import Derived.Test.YtfienpoebndfpaaRuW
import Derived.Test.YtfienpoebndfpaaCellsN
import Derived.Test.YtfienpoebndfpaaOwn
import Derived.Deep.RegionLaw
import Derived.RegionTactic
namespace Go.Proofs.Ytfienpoebndfpaa
open Go.ChangeShapes Go.WideShapes Go.ChangeAt Go.RowKit
set_option linter.unusedVariables false
section
variable {P : Program} {ops : Array Oper} {o : Oper} {a : Act} {w : World} {K : Act → World → Prop} {Q : Exit → Act → World → Prop} {E : Prop}
theorem step_append_run (hgd : o.guard = none) (d s : Operand) (t t' : TypeId) (hop : o.op = .call { callee := .builtin .append, args := #[d, s], argTypes := #[t, t'] }) (v u : Value) (hd : a.eval d = v) (hs : a.eval s = u) {v' : Value} {w' : World}
    (hr : (Builtin.append_ #[t, t'] o.type #[v, u]).run P w = .ok v' w') (hK : K (a.put o.dst v') w') : if Region.wanted o (yielded ops a.tmps) = true then Oper.wp P o a w K Q else E := by
  have hw : Region.wanted o (yielded ops a.tmps) = true := by simp [Region.wanted, hgd]
  rw [if_pos hw]
  unfold Oper.wp execOp
  simp only [hop, resolve, invoke, builtin, Sem.run_bind, Sem.run_pure, Result.andThen_ok, List.map_toArray, List.map_cons, List.map_nil, hd, hs, hr]
  exact hK
theorem step_lookup_run (hgd : o.guard = none) (m x : Operand) (t : TypeId) (ok : Bool) (hop : o.op = .lookup t m x ok) (v u : Value) (hd : a.eval m = v) (hs : a.eval x = u) {v' : Value} {w' : World}
    (hr : (Instr.lookup t v u ok).run P w = .ok v' w') (hK : K (a.put o.dst v') w') : if Region.wanted o (yielded ops a.tmps) = true then Oper.wp P o a w K Q else E := by
  have hw : Region.wanted o (yielded ops a.tmps) = true := by simp [Region.wanted, hgd]
  rw [if_pos hw]
  unfold Oper.wp
  simp [execOp, hop, hd, hs, hr, Result.andThen]
  exact hK
theorem step_mapUpdate_run (hgd : o.guard = none) (m x v : Operand) (t : TypeId) (hop : o.op = .mapUpdate t m x v) (vm vk vv : Value) (hm : a.eval m = vm) (hx : a.eval x = vk) (hv : a.eval v = vv) {w' : World}
    (hr : (Instr.mapUpdate t vm vk vv).run P w = .ok () w') (hK : K (a.put o.dst undef) w') : if Region.wanted o (yielded ops a.tmps) = true then Oper.wp P o a w K Q else E := by
  have hw : Region.wanted o (yielded ops a.tmps) = true := by simp [Region.wanted, hgd]
  rw [if_pos hw]
  unfold Oper.wp
  simp [execOp, hop, hm, hx, hv, hr, Result.andThen]
  exact hK
end
theorem RbMap.alloc {w : World} {b : Nat} {l : List REnt} (h : RbMap w b l) (o : Obj) : RbMap (w.alloc o) b l := get_alloc h (size_of_get h)
theorem RbMap.below {w w' : World} {b : Nat} {l : List REnt} (h : RbMap w b l) (hb : Below w.heap.size w w') : RbMap w' b l := get_below hb h (size_of_get h)
theorem RbMap.drew {w : World} {b : Nat} {l : List REnt} (h : RbMap w b l) : RbMap w.drew b l := h
theorem RbMap.drewN {w : World} {b : Nat} {l : List REnt} (h : RbMap w b l) (n : Nat) : RbMap (w.drewN n) b l := h
theorem RbMap.set {w : World} {b g j : Nat} {v : Value} {l : List REnt} (h : RbMap w b l) (hg : g ≠ b) : RbMap (w.setCell ⟨g, j, none⟩ v) b l := get_set_ne h hg.symm
/-- The keys of a book, cell by cell. -/
def keyCells (l : List REnt) : List Value := l.flatMap fun e => [.int .i64 e.1.1, .int .i64 e.1.2.1, .int .i64 e.1.2.2.1, .int .i64 e.1.2.2.2]
theorem keyCells_snoc (l : List REnt) (k : RKey) (p s : Bool) : keyCells (l ++ [(k, p, s)]) = keyCells l ++ [.int .i64 k.1, .int .i64 k.2.1, .int .i64 k.2.2.1, .int .i64 k.2.2.2] := by
  simp [keyCells]
theorem keyCells_set (l : List REnt) (i : Nat) (k : RKey) (m m' : Bool × Bool) (h : l[i]? = some (k, m)) : keyCells (l.set i (k, m')) = keyCells l := by
  induction l generalizing i with
  | nil => simp at h
  | cons e t ih =>
    cases i with
    | zero => simp at h; subst h; simp [keyCells]
    | succ i => simp at h; have := ih i h; simp only [keyCells] at this; simp [keyCells, this]
theorem keyCells_len (l : List REnt) : (keyCells l).length = l.length * 4 := by
  induction l with
  | nil => rfl
  | cons e t ih => simp [keyCells] at ih ⊢; omega
/-- The world in which the block b is the map of the book l. -/
def putMap (w : World) (b : Nat) (l : List REnt) : World := { w with heap := w.heap.setIfInBounds b (.map (rbEs l 0).toArray l.length) }
theorem putMap_ne {w : World} {b g : Nat} {l : List REnt} {o : Obj} (h : w.heap[g]? = some o) (hg : g ≠ b) : (putMap w b l).heap[g]? = some o := by
  unfold putMap; simp [Array.getElem?_setIfInBounds_ne (Ne.symm hg), h]
theorem putMap_map {w : World} {b : Nat} {l l' : List REnt} (h : RbMap w b l) : RbMap (putMap w b l') b l' := by
  have hb := size_of_get h
  unfold RbMap putMap
  simp [hb]
theorem putMap_below {w0 w : World} {b B : Nat} {l : List REnt} (h : Below B w0 w) (hb : B ≤ b) : Below B w0 (putMap w b l) :=
  ⟨h.os, h.tape, h.output, by simpa [putMap] using h.size, fun k hk => by
    have : (putMap w b l).heap[k]? = w.heap[k]? := by unfold putMap; rw [Array.getElem?_setIfInBounds_ne (by omega)]
    rw [this]; exact h.block k hk⟩
theorem RbMap.ne_cells {w : World} {b g : Nat} {l : List REnt} {cs : Array Value} {t : TypeId} {fr : Nat × Nat} (h : RbMap w b l) (hg : w.heap[g]? = some (.cells cs t fr)) : g ≠ b := by
  rintro rfl
  rw [h] at hg; cases hg
theorem own_putMap {w : World} {b B n : Nat} {e : TypeId} {sz : Nat} {v : Value} {xs : List Value} {l l' : List REnt} (h : w.ownsRow B e sz v n xs) (hm : RbMap w b l) : (putMap w b l').ownsRow B e sz v n xs := by
  obtain ⟨h1, h2⟩ := h
  refine ⟨h1, ?_⟩
  rcases h2 with h3 | ⟨g, c, cur, h3, h4, h5, h6⟩
  · exact .inl h3
  · exact .inr ⟨g, c, cur, h3, h4, putMap_ne h5 (hm.ne_cells h5), h6⟩
theorem own_slice {w : World} {B n : Nat} {e : TypeId} {sz : Nat} {v : Value} {xs : List Value} (h : w.ownsRow B e sz v n xs) : ∃ a c, v = .slice a n c ∧ (v.ownBlock = none ∨ ∃ g cs, v.ownBlock = some g ∧ B ≤ g ∧ w.heap[g]? = some (.cells cs e (0, 0))) := by
  rcases h.2 with ⟨rfl, rfl⟩ | ⟨g, c, cur, rfl, h4, h5, h6⟩
  · exact ⟨none, 0, rfl, .inl rfl⟩
  · exact ⟨_, c, rfl, .inr ⟨g, cur, rfl, h4, h5⟩⟩
theorem own_set_tag {w : World} {B n g j : Nat} {e T : TypeId} {sz : Nat} {v x : Value} {xs : List Value} {cs : Array Value} {fr : Nat × Nat} (h : w.ownsRow B e sz v n xs) (hg : w.heap[g]? = some (.cells cs T fr)) (hne : e ≠ T) : (w.setCell ⟨g, j, none⟩ x).ownsRow B e sz v n xs := by
  obtain ⟨h1, h2⟩ := h
  refine ⟨h1, ?_⟩
  rcases h2 with h3 | ⟨b, c, cur, h3, h4, h5, h6⟩
  · exact .inl h3
  · refine .inr ⟨b, c, cur, h3, h4, get_set_ne h5 ?_, h6⟩
    rintro rfl
    rw [hg] at h5
    cases h5
    exact hne rfl
theorem rbAdd_some {l : List REnt} {k : RKey} (p s : Bool) (h : (rbFind k l 0).isSome = true) : (rbAdd l k p s).length = l.length ∧ keyCells (rbAdd l k p s) = keyCells l := by
  unfold rbAdd
  cases hf : rbFind k l 0 with
  | none => rw [hf] at h; cases h
  | some x =>
    obtain ⟨i, m⟩ := x
    obtain ⟨_, _, h3⟩ := rbFind_some hf
    rw [Nat.sub_zero] at h3
    exact ⟨by simp, keyCells_set l i k m _ h3⟩
theorem rbAdd_none {l : List REnt} {k : RKey} (p s : Bool) (h : (rbFind k l 0).isSome = false) : rbAdd l k p s = l ++ [(k, p, s)] := by
  unfold rbAdd
  cases hf : rbFind k l 0 with
  | none => rfl
  | some x => rw [hf] at h; cases h
theorem cinfoRK : ∃ i, Try.prog.info? 115 = some i ∧ i.zero = some (.agg #[.int .i64 0, .int .i64 0, .int .i64 0, .int .i64 0]) ∧ i.size = 4 ∧ i.bytes ≤ 256 := by
  have h : (Try.prog.info? 115).map (fun i => (i.zero, i.size, decide (i.bytes ≤ 256))) = some (some (.agg #[.int .i64 0, .int .i64 0, .int .i64 0, .int .i64 0]), 4, true) := by kernel_rfl
  obtain ⟨i, hi, hz⟩ := Option.map_eq_some_iff.1 h
  simp only [Prod.mk.injEq, decide_eq_true_eq] at hz
  exact ⟨i, hi, hz.1, hz.2.1, hz.2.2⟩
theorem cutG {X G : Prop} (f : X → G) (x : X) : G := f x
set_option maxRecDepth 100000 in
set_option maxHeartbeats 2000000 in
theorem add_any (g mb : Nat) (l : List REnt) (V : Value) (B : Nat) (k0 k1 k2 k3 : Int) (p s : Bool) (w : World)
    (hg : w.heap[g]? = some (.cells #[.map (some mb), V] 112)) (hm : RbMap w mb l) (ho : w.ownsRow B 115 4 V l.length (keyCells l)) (hBg : B ≤ g) (hBm : B ≤ mb) (hlen : l.length ≤ 100) :
    Calls Try.prog 115 #[.pointer (some ⟨g, 0, none⟩), .agg #[.int .i64 k0, .int .i64 k1, .int .i64 k2, .int .i64 k3], .agg #[.bool p, .bool s]] w fun e w' =>
      e = .returned (.tuple #[]) ∧ ∃ V', w'.heap[g]? = some (.cells #[.map (some mb), V'] 112) ∧ RbMap w' mb (rbAdd l (k0, k1, k2, k3) p s) ∧ w'.ownsRow B 115 4 V' (rbAdd l (k0, k1, k2, k3) p s).length (keyCells (rbAdd l (k0, k1, k2, k3) p s)) ∧ Below B w w' := by
  have hgl := size_of_get hg
  have hml := size_of_get hm
  obtain ⟨oa, oc, hV, hob⟩ := own_slice ho
  have hrow : Hid (∀ x, V.ownBlock = some x → x < w.heap.size ∧ x ≠ g ∧ x ≠ mb ∧ B ≤ x) := fun x hx => by
    rcases hob with h | ⟨y, cs, h, h2, h3⟩
    · rw [h] at hx; cases hx
    · rw [h] at hx
      cases hx
      refine ⟨size_of_get h3, ?_, hm.ne_cells h3, h2⟩
      rintro rfl
      rw [hg] at h3
      cases h3
  clear hob
  have HLK : Hid (∀ W, RbMap W mb l → (Instr.lookup 109 (.map (some mb)) (.agg #[.int .i64 k0, .int .i64 k1, .int .i64 k2, .int .i64 k3]) true).run Try.prog W = .ok (.tuple #[.agg #[.bool (rbGet l (k0, k1, k2, k3)).1, .bool (rbGet l (k0, k1, k2, k3)).2], .bool (rbFind (k0, k1, k2, k3) l 0).isSome]) W) := fun W h => rb_lookup h (k0, k1, k2, k3) true
  have HG0 : Hid (((w.alloc (.cells #[.int .i64 k0, .int .i64 k1, .int .i64 k2, .int .i64 k3] 115)).alloc (.cells #[.bool p, .bool s] 108)).heap[g]? = some (.cells #[.map (some mb), V] 112)) := get_alloc (get_alloc hg hgl) (by simp; omega)
  have HM0 : Hid (RbMap ((w.alloc (.cells #[.int .i64 k0, .int .i64 k1, .int .i64 k2, .int .i64 k3] 115)).alloc (.cells #[.bool p, .bool s] 108)) mb l) := (hm.alloc _).alloc _
  have HK0 : Hid (((w.alloc (.cells #[.int .i64 k0, .int .i64 k1, .int .i64 k2, .int .i64 k3] 115)).alloc (.cells #[.bool p, .bool s] 108)).heap[w.heap.size]? = some (.cells #[.int .i64 k0, .int .i64 k1, .int .i64 k2, .int .i64 k3] 115)) := get_alloc (get_new rfl) (by simp)
  have HQ0 : Hid (((w.alloc (.cells #[.int .i64 k0, .int .i64 k1, .int .i64 k2, .int .i64 k3] 115)).alloc (.cells #[.bool p, .bool s] 108)).heap[w.heap.size + 1]? = some (.cells #[.bool p, .bool s] 108)) := get_new (by simp)
  have HB0 : Hid (Below w.heap.size w ((w.alloc (.cells #[.int .i64 k0, .int .i64 k1, .int .i64 k2, .int .i64 k3] 115)).alloc (.cells #[.bool p, .bool s] 108))) := ((Below.refl _ _).alloc (Nat.le_refl _) _).alloc (by simp) _
  obtain ⟨hp, hhp⟩ : ∃ x, x = (rbGet l (k0, k1, k2, k3)).1 := ⟨_, rfl⟩
  obtain ⟨hs, hhs⟩ : ∃ x, x = (rbGet l (k0, k1, k2, k3)).2 := ⟨_, rfl⟩
  obtain ⟨ok, hok⟩ : ∃ x, x = (rbFind (k0, k1, k2, k3) l 0).isSome := ⟨_, rfl⟩
  rw [← hhp, ← hhs, ← hok] at HLK
  have HH : Hid (hp = (rbGet l (k0, k1, k2, k3)).1 ∧ hs = (rbGet l (k0, k1, k2, k3)).2) := ⟨hhp, hhs⟩
  have HOK : Hid (ok = (rbFind (k0, k1, k2, k3) l 0).isSome) := hok
  clear hhp hhs hok hg hm
  go_enter Try.func115, Try.ntmps115
  go_wp2_with fail
  generalize ((w.alloc (.cells #[.int .i64 k0, .int .i64 k1, .int .i64 k2, .int .i64 k3] 115)).alloc (.cells #[.bool p, .bool s] 108)) = w0 at *
  have HMd : Hid (RbMap w0.drew mb l) := HM0.out
  obtain ⟨gc0, gc1⟩ := cells2_of HG0.out
  obtain ⟨kc0, kc1, kc2, kc3⟩ := cells4_of HK0.out
  have hzk := size_of_get HK0.out
  have hzg := size_of_get HG0.out
  have hl1 := HLK.out w0 HM0.out
  have hl2 := HLK.out w0.drew HM0.out
  have hl3 : ∀ X, _ := fun X => HLK.out (w0.alloc X).drew (HM0.out.alloc X)
  have hl4 : ∀ X, _ := fun X => HLK.out (w0.alloc X) (HM0.out.alloc X)
  go_region
  have HB1 : Hid (Below w.heap.size w (w0.alloc (.cells #[.bool hp, .bool hs] 108)).drew) := (HB0.out.alloc HB0.out.size _).drew
  have HG1 : Hid ((w0.alloc (.cells #[.bool hp, .bool hs] 108)).drew.heap[g]? = some (.cells #[.map (some mb), V] 112)) := get_alloc HG0.out hzg
  have HM1 : Hid (RbMap (w0.alloc (.cells #[.bool hp, .bool hs] 108)).drew mb l) := HM0.out.alloc _
  have HK1 : Hid ((w0.alloc (.cells #[.bool hp, .bool hs] 108)).drew.heap[w.heap.size]? = some (.cells #[.int .i64 k0, .int .i64 k1, .int .i64 k2, .int .i64 k3] 115)) := get_alloc HK0.out hzk
  have HQ1 : Hid ((w0.alloc (.cells #[.bool hp, .bool hs] 108)).drew.heap[w.heap.size + 1]? = some (.cells #[.bool p, .bool s] 108)) := get_alloc HQ0.out (size_of_get HQ0.out)
  have HA1 : Hid ((w0.alloc (.cells #[.bool hp, .bool hs] 108)).drew.heap[w0.heap.size]? = some (.cells #[.bool hp, .bool hs] 108)) := get_new rfl
  clear hl1 hl2 hl3 hl4 gc0 gc1 kc0 kc1 kc2 kc3 HLK HMd
  generalize (w0.alloc (.cells #[.bool hp, .bool hs] 108)).drew = w1 at *
  have HO1 : Hid (w1.ownsRow B 115 4 V l.length (keyCells l)) := own_kept ho HB1.out
  clear ho
  obtain ⟨gc0, gc1⟩ := cells2_of HG1.out
  obtain ⟨kc0, kc1, kc2, kc3⟩ := cells4_of HK1.out
  obtain ⟨qc0, qc1⟩ := cells2_of HQ1.out
  obtain ⟨ac0, ac1⟩ := cells2_of HA1.out
  have hzk1 := size_of_get HK1.out
  have hzg1 := size_of_get HG1.out
  have hzq1 := size_of_get HQ1.out
  have hza1 := size_of_get HA1.out
  have hBs : B ≤ w.heap.size := by omega
  cases ok
  · have HS : Hid (rbAdd l (k0, k1, k2, k3) p s = l ++ [((k0, k1, k2, k3), p, s)]) := rbAdd_none p s HOK.out.symm
    subst hV
    obtain ⟨i0, hi, hz0, hz1, hz2⟩ := cinfoRK
    have hsz1 : w1.heap.size < (w1.alloc (.cells #[.int .i64 k0, .int .i64 k1, .int .i64 k2, .int .i64 k3] 115)).drew.heap.size := by simp
    have hN : ((w1.alloc (.cells #[.int .i64 k0, .int .i64 k1, .int .i64 k2, .int .i64 k3] 115)).drew.heap[w1.heap.size]? = some (.cells #[.int .i64 k0, .int .i64 k1, .int .i64 k2, .int .i64 k3] 115)) := get_new rfl
    obtain ⟨n0, n1, n2, n3⟩ := cells4_of hN
    have hnews : ∀ j u, ([.int .i64 k0, .int .i64 k1, .int .i64 k2, .int .i64 k3] : List Value)[j]? = some u → (w1.alloc (.cells #[.int .i64 k0, .int .i64 k1, .int .i64 k2, .int .i64 k3] 115)).drew.cell? ((⟨w1.heap.size, 0, none⟩ : Addr).add j) = some u := by
      intro j u hj
      have hj4 : j < 4 := by
        rcases Nat.lt_or_ge j 4 with h | h
        · exact h
        · rw [List.getElem?_eq_none (by simpa using h)] at hj; cases hj
      have hj5 : j = 0 ∨ j = 1 ∨ j = 2 ∨ j = 3 := by omega
      rcases hj5 with rfl | rfl | rfl | rfl <;> (simp at hj; subst hj; simp [Addr.add]; first | done | assumption)
    have hone : ∀ u ∈ ([.int .i64 k0, .int .i64 k1, .int .i64 k2, .int .i64 k3] : List Value), u.oneCell' = true := by
      intro u hu
      simp at hu
      rcases hu with rfl | rfl | rfl | rfl <;> rfl
    have hbt : (l.length + 1) * i0.bytes ≤ 140737488355328 := by
      have := Nat.mul_le_mul (show l.length + 1 ≤ 101 by omega) hz2
      omega
    have hown' : (w1.alloc (.cells #[.int .i64 k0, .int .i64 k1, .int .i64 k2, .int .i64 k3] 115)).drew.ownsRow B 115 4 (.slice oa l.length oc) l.length (keyCells l) := own_kept HO1.out (((Below.refl _ _).alloc (Nat.le_refl _) _).drew)
    obtain ⟨v', w2, hrun, ho2, hgr, _⟩ := run_append_own (P := Try.prog) (w1.alloc (.cells #[.int .i64 k0, .int .i64 k1, .int .i64 k2, .int .i64 k3] 115)).drew B 110 110 115 i0 (.agg #[.int .i64 0, .int .i64 0, .int .i64 0, .int .i64 0]) 4 i0.bytes Try.underlying110 hi hz0 hz1 rfl rfl (by decide) (.slice oa l.length oc) l.length _ hown' ⟨w1.heap.size, 0, none⟩ 1 1 [.int .i64 k0, .int .i64 k1, .int .i64 k2, .int .i64 k3] rfl hnews hone (by unfold maxLen; omega) hbt (by have := HB1.out.size; simp; omega)
    obtain ⟨a', c', rfl, _⟩ := own_slice ho2
    have hkeep : ∀ x o, w1.heap[x]? = some o → (Value.slice oa l.length oc).ownBlock ≠ some x → w2.heap[x]? = some o := fun x o hx hne => (hgr.block x (by have := size_of_get hx; simp; omega) (fun e => hne e.symm)).trans (get_alloc hx (size_of_get hx))
    have hbig : ∀ x o, w1.heap[x]? = some o → w.heap.size ≤ x → w2.heap[x]? = some o := fun x o hx hle => hkeep x o hx (fun e => by have := (hrow.out x e).1; omega)
    have HG2 : Hid (w2.heap[g]? = some (.cells #[.map (some mb), .slice oa l.length oc] 112)) := hkeep g _ HG1.out (fun e => (hrow.out g e).2.1 rfl)
    have HM2 : Hid (RbMap w2 mb l) := hkeep mb _ HM1.out (fun e => (hrow.out mb e).2.2.1 rfl)
    have HK2 : Hid (w2.heap[w.heap.size]? = some (.cells #[.int .i64 k0, .int .i64 k1, .int .i64 k2, .int .i64 k3] 115)) := hbig _ _ HK1.out (Nat.le_refl _)
    have HQ2 : Hid (w2.heap[w.heap.size + 1]? = some (.cells #[.bool p, .bool s] 108)) := hbig _ _ HQ1.out (by omega)
    have HA2 : Hid (w2.heap[w0.heap.size]? = some (.cells #[.bool hp, .bool hs] 108)) := hbig _ _ HA1.out (by omega)
    have HO2 : Hid (w2.ownsRow B 115 4 (.slice a' (l.length + 1) c') (l ++ [((k0, k1, k2, k3), p, s)]).length (keyCells (l ++ [((k0, k1, k2, k3), p, s)]))) := by
      show w2.ownsRow B _ 4 _ _ _
      rw [keyCells_snoc, List.length_append]
      exact ho2
    have HB2 : Hid (Below B w w2) := own_below ((HB1.out.alloc HB1.out.size _).drew.mono hBs) hgr (by have := HB1.out.size; simp; omega) (fun x e => (hrow.out x e).2.2.2)
    have HRUN : Hid _ := hrun
    have hsz2 : w1.heap.size ≤ w2.heap.size := by have := hgr.size; simp at this; omega
    clear hnews hone hbt hown' hrun ho2 hgr hkeep hbig n0 n1 n2 n3 hN hi hz0 hz1 hz2
    obtain ⟨g20, g21⟩ := cells2_of HG2.out
    have fg2 : ∀ j, w2.frozen? ⟨g, j, none⟩ = false := fun j => frozen_get HG2.out
    go_wp2_with fail
    apply cutG
    · intro KK
      go_region_law (refine step_append_run rfl (.tmp 23) (.tmp 25) 110 110 rfl _ _ rfl rfl HRUN.out ?_)
      all_goals exact KK
    have HG3 : Hid ((w2.setCell ⟨g, 1, none⟩ (.slice a' (l.length + 1) c')).heap[g]? = some (.cells #[.map (some mb), .slice a' (l.length + 1) c'] 112)) := get_set HG2.out rfl
    have HM3 : Hid (RbMap (w2.setCell ⟨g, 1, none⟩ (.slice a' (l.length + 1) c')) mb l) := HM2.out.set (HM2.out.ne_cells HG2.out)
    have HK3 : Hid ((w2.setCell ⟨g, 1, none⟩ (.slice a' (l.length + 1) c')).heap[w.heap.size]? = some (.cells #[.int .i64 k0, .int .i64 k1, .int .i64 k2, .int .i64 k3] 115)) := get_set_ne HK2.out (by omega)
    have HQ3 : Hid ((w2.setCell ⟨g, 1, none⟩ (.slice a' (l.length + 1) c')).heap[w.heap.size + 1]? = some (.cells #[.bool p, .bool s] 108)) := get_set_ne HQ2.out (by omega)
    have HA3 : Hid ((w2.setCell ⟨g, 1, none⟩ (.slice a' (l.length + 1) c')).heap[w0.heap.size]? = some (.cells #[.bool hp, .bool hs] 108)) := get_set_ne HA2.out (by omega)
    have HO3 : Hid ((w2.setCell ⟨g, 1, none⟩ (.slice a' (l.length + 1) c')).ownsRow B 115 4 (.slice a' (l.length + 1) c') (l ++ [((k0, k1, k2, k3), p, s)]).length (keyCells (l ++ [((k0, k1, k2, k3), p, s)]))) := own_set_tag HO2.out HG2.out (by decide)
    have HB3 : Hid (Below B w (w2.setCell ⟨g, 1, none⟩ (.slice a' (l.length + 1) c'))) := belowS HB2.out hBg
    have HU : Hid (∀ W, RbMap W mb l → (Instr.mapUpdate 109 (.map (some mb)) (.agg #[.int .i64 k0, .int .i64 k1, .int .i64 k2, .int .i64 k3]) (.agg #[.bool (hp || p), .bool (hs || s)])).run Try.prog W = .ok () (putMap W mb (rbAdd l (k0, k1, k2, k3) p s))) := fun W h => by
      have := rb_update h (k0, k1, k2, k3) p s
      rw [← HH.out.1, ← HH.out.2] at this
      exact this
    clear fg2 g20 g21
    generalize w2.setCell ⟨g, 1, none⟩ (.slice a' (l.length + 1) c') = w3 at *
    obtain ⟨gc0, gc1⟩ := cells2_of HG3.out
    obtain ⟨kc0, kc1, kc2, kc3⟩ := cells4_of HK3.out
    obtain ⟨qc0, qc1⟩ := cells2_of HQ3.out
    obtain ⟨ac0, ac1⟩ := cells2_of HA3.out
    cases hp <;> cases hs
    all_goals
      simp only [Bool.true_or, Bool.false_or] at HU
      have hu' := HU.out w3.drew HM3.out
      go_wp2_with fail
      go_region
      go_end0
      exact ⟨rfl, _, putMap_ne (w := w3.drew) HG3.out (RbMap.ne_cells (w := w3.drew) HM3.out HG3.out), putMap_map (w := w3.drew) HM3.out, own_putMap (w := w3.drew) (by rw [HS.out]; exact HO3.out) HM3.out, putMap_below (w := w3.drew) (Below.drew HB3.out) hBm⟩
  · have HS := rbAdd_some p s HOK.out.symm
    have HSH : Hid _ := HS
    clear HS
    have HU : Hid (∀ W, RbMap W mb l → (Instr.mapUpdate 109 (.map (some mb)) (.agg #[.int .i64 k0, .int .i64 k1, .int .i64 k2, .int .i64 k3]) (.agg #[.bool (hp || p), .bool (hs || s)])).run Try.prog W = .ok () (putMap W mb (rbAdd l (k0, k1, k2, k3) p s))) := fun W h => by
      have := rb_update h (k0, k1, k2, k3) p s
      rw [← HH.out.1, ← HH.out.2] at this
      exact this
    cases hp <;> cases hs
    all_goals
      simp only [Bool.true_or, Bool.false_or] at HU
      have hu := HU.out w1.drew HM1.out
      go_wp2_with fail
      go_region
      go_end0
      exact ⟨rfl, V, putMap_ne (w := w1.drew) HG1.out (RbMap.ne_cells (w := w1.drew) HM1.out HG1.out), putMap_map (w := w1.drew) HM1.out, own_putMap (w := w1.drew) (by rw [HSH.out.1, HSH.out.2]; exact HO1.out) HM1.out, putMap_below (w := w1.drew) ((Below.drew HB1.out).mono hBs) hBm⟩
end Go.Proofs.Ytfienpoebndfpaa
