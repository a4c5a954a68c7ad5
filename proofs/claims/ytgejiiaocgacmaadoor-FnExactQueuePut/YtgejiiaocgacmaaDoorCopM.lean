/- 'copy(dst, s)' from a string that is at least as long as dst: dst is filled. Nothing of the program. -/
import Derived.Test.YtgejiiaocgacmaaDoorRows
import Derived.Lib.BufferWrite
import Derived.ProofKit
import Derived.Below
namespace Go.Proofs.YtgejiiaocgacmaaDoor
open Go.ChangeShapes Go.WideShapes Go.ChangeAt Go.RowKit Go.Lib
set_option linter.unusedVariables false
theorem copy_min {P : Program} (w : World) (dT sT ty elem : TypeId) (g n dCap : Nat) (s : ByteArray) (cur : Array Value) (t : TypeId)
    (hu : P.underlying dT = some (.slice elem)) (hs : (P.info? elem).map (·.size) = some 1) (hg : w.heap[g]? = some (.cells cur t (0, 0))) (hc : cur.size = n) (hle : n ≤ s.size) :
    (Builtin.copy_ #[dT, sT] ty #[.slice (some ⟨g, 0, none⟩) n dCap, .string s]).run P w =
      .ok (goInt n) (w.setRow g (byteCells (s.data.toList.take n)).toArray) := by
  have hlen : (byteCells (s.data.toList.take n)).length = n := by rw [byteCells_length, List.length_take]; have : s.data.toList.length = s.size := by simp
                                                                  omega
  have hst := run_storeCells_at P g 0 t (byteCells (s.data.toList.take n)) 0 cur w hg (by rw [hlen]; omega) (byteCells_one _)
  have hmin : Nat.min s.size n = n := Nat.min_eq_right hle
  have htk : List.take n (List.map (fun b : UInt8 => Value.int IntKind.u8 (b.toNat : Int)) s.data.toList) = byteCells (s.data.toList.take n) := by
    rw [← List.map_take]; rfl
  have hend : (cur.toList.take (0 + 0) ++ byteCells (s.data.toList.take n) ++ cur.toList.drop (0 + 0 + (byteCells (s.data.toList.take n)).length)).toArray = (byteCells (s.data.toList.take n)).toArray := by
    rw [hlen, List.drop_eq_nil_of_le (by simp; omega)]; simp
  rw [hend] at hst
  cases hq : P.info? elem with
  | none => simp [hq] at hs
  | some i =>
    simp [Builtin.copy_, run_underlying hu, Builtin.lenOf, Builtin.firstCells, sizeOf, typeInfo, hq, hmin]
    rw [htk, hst]
    simp [Result.andThen]
end Go.Proofs.YtgejiiaocgacmaaDoor
