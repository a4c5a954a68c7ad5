/- The map of a book of rules: what the model's look-up, store and make give. -/
import Derived.Test.YtfienpoebndfpaaRbP
import Derived.Test.YtfienpoebndfpaaHeap
import Derived.MapKept
import Derived.WideKeyRuns
import Derived.WideMake
import Derived.Laws.StructEq
namespace Go.Proofs.Ytfienpoebndfpaa
open Go.RowKit
set_option linter.unusedVariables false
def keyV (k : RKey) : Value := .agg #[.int .i64 k.1, .int .i64 k.2.1, .int .i64 k.2.2.1, .int .i64 k.2.2.2]
def modV (m : Bool × Bool) : Value := .agg #[.bool m.1, .bool m.2]
def rbE (e : REnt) (i : Nat) : MapEntry := { key := keyV e.1, val := modV e.2, born := i }
def rbEs : List REnt → Nat → List MapEntry
  | [], _ => []
  | e :: t, i => rbE e i :: rbEs t (i + 1)
/-- The block b is the map of the book l. -/
def RbMap (w : World) (b : Nat) (l : List REnt) : Prop := w.heap[b]? = some (.map (rbEs l 0).toArray l.length)
theorem rbEs_len (l : List REnt) (i : Nat) : (rbEs l i).length = l.length := by
  induction l generalizing i with
  | nil => rfl
  | cons e t ih => simp [rbEs, ih]
theorem rbEs_app (l r : List REnt) (i : Nat) : rbEs (l ++ r) i = rbEs l i ++ rbEs r (i + l.length) := by
  induction l generalizing i with
  | nil => simp [rbEs]
  | cons e t ih => simp [rbEs, ih]; congr 1; omega
theorem rbEs_get (l : List REnt) (i j : Nat) : (rbEs l i)[j]? = (l[j]?).map fun e => rbE e (i + j) := by
  induction l generalizing i j with
  | nil => simp [rbEs]
  | cons e t ih =>
    cases j with
    | zero => simp [rbEs]
    | succ j => simp [rbEs, ih]; congr 1; funext e; congr 1; omega
theorem rbEs_set (l : List REnt) (i j : Nat) (e : REnt) : rbEs (l.set j e) i = (rbEs l i).set j (rbE e (i + j)) := by
  induction l generalizing i j with
  | nil => simp [rbEs]
  | cons x t ih =>
    cases j with
    | zero => simp [rbEs]
    | succ j => simp [rbEs, ih]; congr 2; omega
theorem rb_fields : (Try.prog.fieldsOf 115).toList.map (fun f => (f.name, f.type, f.offset)) = [("source", 3, 0), ("apid", 3, 1), ("service", 3, 2), ("sub", 3, 3)] := by kernel_rfl
theorem rb_list4 {α : Type} {l : List α} (h : l.length = 4) : ∃ x0 x1 x2 x3, l = [x0, x1, x2, x3] := by
  match l, h with
  | [x0, x1, x2, x3], _ => exact ⟨x0, x1, x2, x3, rfl⟩
theorem rb_eqFields (a0 a1 a2 a3 b0 b1 b2 b3 : Int) (w : World) :
    (Op.eqFields 9999 #[.int .i64 a0, .int .i64 a1, .int .i64 a2, .int .i64 a3] #[.int .i64 b0, .int .i64 b1, .int .i64 b2, .int .i64 b3] (Try.prog.fieldsOf 115).toList).run Try.prog w = .ok (a0 == b0 && (a1 == b1 && (a2 == b2 && a3 == b3))) w := by
  have h := rb_fields
  generalize (Try.prog.fieldsOf 115).toList = l at h ⊢
  have hl : l.length = 4 := by simpa using congrArg List.length h
  obtain ⟨F0, F1, F2, F3, rfl⟩ := rb_list4 hl
  simp only [List.map_cons, List.map_nil, List.cons.injEq, Prod.mk.injEq, and_true] at h
  obtain ⟨⟨n0, t0, o0⟩, ⟨n1, t1, o1⟩, ⟨n2, t2, o2⟩, ⟨n3, t3, o3⟩⟩ := h
  have p0 : ∀ x0 x1 x2 x3 : Int, (part 3 #[.int .i64 x0, .int .i64 x1, .int .i64 x2, .int .i64 x3] 0).run Try.prog w = .ok (.int .i64 x0) w := fun _ _ _ _ => by kernel_rfl
  have p1 : ∀ x0 x1 x2 x3 : Int, (part 3 #[.int .i64 x0, .int .i64 x1, .int .i64 x2, .int .i64 x3] 1).run Try.prog w = .ok (.int .i64 x1) w := fun _ _ _ _ => by kernel_rfl
  have p2 : ∀ x0 x1 x2 x3 : Int, (part 3 #[.int .i64 x0, .int .i64 x1, .int .i64 x2, .int .i64 x3] 2).run Try.prog w = .ok (.int .i64 x2) w := fun _ _ _ _ => by kernel_rfl
  have p3 : ∀ x0 x1 x2 x3 : Int, (part 3 #[.int .i64 x0, .int .i64 x1, .int .i64 x2, .int .i64 x3] 3).run Try.prog w = .ok (.int .i64 x3) w := fun _ _ _ _ => by kernel_rfl
  have q : ∀ a b : Int, (Op.equalIn 9999 3 (.int .i64 a) (.int .i64 b)).run Try.prog w = .ok (a == b) w := fun a b => run_equalIn_int w 9998 3 .i64 .i64 a b Try.underlying3
  simp only [Op.eqFields, n0, n1, n2, n3, t0, t1, t2, t3, o0, o1, o2, o3, ne_eq, String.reduceEq, not_false_eq_true, if_true, Sem.run_bind, p0, q, Result.andThen_ok]
  by_cases h0 : a0 = b0 <;> by_cases h1 : a1 = b1 <;> by_cases h2 : a2 = b2 <;> by_cases h3 : a3 = b3 <;> simp [Sem.run_bind, p1, p2, p3, q, Result.andThen, h0, h1, h2, h3]
theorem rb_equal (a b : RKey) (w : World) : (Op.equal 115 (keyV a) (keyV b)).run Try.prog w = .ok (decide (a = b)) w := by
  obtain ⟨a0, a1, a2, a3⟩ := a
  obtain ⟨b0, b1, b2, b3⟩ := b
  have h1 := run_equalIn_agg (P := Try.prog) w 9999 115 #[.int .i64 a0, .int .i64 a1, .int .i64 a2, .int .i64 a3] #[.int .i64 b0, .int .i64 b1, .int .i64 b2, .int .i64 b3] (by kernel_rfl) (by kernel_rfl)
  rw [rb_eqFields] at h1
  have h2 : decide (((a0, a1, a2, a3) : RKey) = (b0, b1, b2, b3)) = (a0 == b0 && (a1 == b1 && (a2 == b2 && a3 == b3))) := by
    rw [Bool.eq_iff_iff]; simp
  rw [h2]
  exact h1
theorem rb_check (e : Bool) (a : RKey) (w : World) : (Instr.checkKey e 10000 115 (keyV a)).run Try.prog w = .ok () w := by
  obtain ⟨a0, a1, a2, a3⟩ := a
  kernel_rfl
theorem rb_asking (k : RKey) (w : World) : ∀ (l : List REnt) (i : Nat), (Instr.findAsking 115 (keyV k) (rbEs l i) i).run Try.prog w = .ok ((rbFind k l i).map fun x => (x.1, modV x.2)) w
  | [], i => by simp [rbEs, Instr.findAsking, rbFind]
  | e :: t, i => by
    have hq := rb_equal k e.1 w
    unfold rbEs Instr.findAsking rbFind
    simp only [rbE, Sem.run_bind, hq, Result.andThen]
    by_cases h : k = e.1
    · simp [h]
    · simp only [h, decide_false, if_false]
      exact rb_asking k w t (i + 1)
theorem rb_find (k : RKey) (l : List REnt) (w : World) : (Instr.findKey 115 (keyV k) (rbEs l 0)).run Try.prog w = .ok ((rbFind k l 0).map fun x => (x.1, modV x.2)) w := by
  rw [run_findKey_eq w (by kernel_rfl)]
  exact rb_asking k w l 0
theorem rb_zero (w : World) : (zeroValue 108).run Try.prog w = .ok (modV (false, false)) w := by kernel_rfl
/-- The look-up, with or without the word whether it is there. -/
theorem rb_lookup {w : World} {b : Nat} {l : List REnt} (h : RbMap w b l) (k : RKey) (ok : Bool) :
    (Instr.lookup 109 (.map (some b)) (keyV k) ok).run Try.prog w = .ok (if ok then .tuple #[modV (rbGet l k), .bool (rbFind k l 0).isSome] else modV (rbGet l k)) w := by
  unfold Instr.lookup
  simp only [Sem.run_bind, run_underlying Try.underlying109, Result.andThen_ok, MapKept.run_getObj_map h, Sem.run_pure, rb_check, rb_find]
  cases hf : rbFind k l 0 with
  | none =>
    cases ok <;> simp [rbGet, hf] <;> rfl
  | some x => cases ok <;> simp [rbGet, hf]
theorem sameBits_key (k : RKey) : Instr.sameBits 10000 (keyV k) (keyV k) = true := by
  obtain ⟨a0, a1, a2, a3⟩ := k
  simp [Instr.sameBits, keyV]
/-- The store. -/
theorem rb_update {w : World} {b : Nat} {l : List REnt} (h : RbMap w b l) (k : RKey) (p s : Bool) :
    (Instr.mapUpdate 109 (.map (some b)) (keyV k) (modV ((rbGet l k).1 || p, (rbGet l k).2 || s))).run Try.prog w = .ok () { w with heap := w.heap.setIfInBounds b (.map (rbEs (rbAdd l k p s) 0).toArray (rbAdd l k p s).length) } := by
  unfold Instr.mapUpdate rbAdd
  simp only [Sem.run_bind, run_underlying Try.underlying109, Result.andThen_ok, MapKept.run_getObj_map h, rb_check, rb_find]
  cases hf : rbFind k l 0 with
  | none =>
    have hg : rbGet l k = (false, false) := by unfold rbGet; rw [hf]; rfl
    simp only [Option.map_none, hg, Bool.false_or]
    rw [MapKept.run_setObj_map _ h]
    congr 2
    rw [rbEs_app]
    simp [rbEs, rbE]
  | some x =>
    obtain ⟨i, mm⟩ := x
    have hgt : rbGet l k = mm := by unfold rbGet; rw [hf]; rfl
    obtain ⟨_, h2, h3⟩ := rbFind_some hf
    rw [Nat.sub_zero] at h3
    have hg : (rbEs l 0).toArray[i]? = some (rbE (k, mm) i) := by
      rw [List.getElem?_toArray, rbEs_get, h3]; simp
    simp only [Option.map_some, hg, Option.getD_some, rbE, Instr.keyThatStays, sameBits_key, if_true, Sem.run_bind, Sem.run_pure, Result.andThen_ok, hgt]
    rw [MapKept.run_setObj_map _ h]
    congr 3
    rw [rbEs_set, List.length_set]
    congr 1
    apply Array.ext'
    simp [rbE]
    apply List.ext_getElem?
    intro j
    rw [List.getElem?_modify, List.getElem?_set]
    by_cases e : i = j
    · subst e
      have h4 : i < (rbEs l 0).length := by rw [rbEs_len]; omega
      have h5 := rbEs_get l 0 i
      rw [h3] at h5
      rw [h5]
      simp [h4, rbE]
    · simp [e]
end Go.Proofs.Ytfienpoebndfpaa
