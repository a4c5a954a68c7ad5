/- The contracts of FramePut, both sides. -/
import Derived.Test.YtgejiiaocgacmaaDoorFrK
import Derived.Test.YtgejiiaocgacmaaDoorFaP
import Derived.Test.YtgejiiaocgacmaaDoorToFr
import Derived.Test.YtgejiiaocgacmaaDoorKeep
import Derived.Test.YtgejiiaocgacmaaDoorCrcI
import Derived.Test.YtgejiiaocgacmaaDoorCrcS
import Derived.Deep.RegionHeld2
namespace Go.Proofs.YtgejiiaocgacmaaDoor
open Go.ChangeShapes Go.WideShapes Go.ChangeAt Go.RowKit
set_option linter.unusedVariables false

theorem crc_lt (t : ByteArray) : crcTo t t.size < 65536 := crcTo_lt t t.size
def hiB (n : Int) : UInt8 := UInt8.ofNat (n.toNat / 256)
def loB (n : Int) : UInt8 := UInt8.ofNat n.toNat
theorem numPut2 (n : Int) (w : World) (h0 : 0 ≤ n) (h1 : n ≤ 65535) : Calls Tryd.prog 98 #[.int .i64 n, .int .i64 2] w fun e w' => ∃ x y : UInt8, Hid (x = hiB n ∧ y = loB n) ∧ e = .returned (.string ⟨#[x, y]⟩) ∧ Below w.heap.size w w' :=
  (implNumPut_any n 2 w).mono fun e w' ⟨he, hb⟩ => ⟨hiB n, loB n, ⟨rfl, rfl⟩, by rw [he, putL_yes (by omega) (by omega) h0 (by show n < (65536 : Int); omega)]; simp [pt, hiB, loB], hb⟩
theorem l1Put2 (n : Int) (w : World) (h0 : 0 ≤ n) (h1 : n ≤ 65535) : Calls Tryd.prog 71 #[.int .i64 n, .int .i64 2] w fun e w' => ∃ x y : UInt8, Hid (x = hiB n ∧ y = loB n) ∧ e = .returned (.string ⟨#[x, y]⟩) ∧ Below w.heap.size w w' :=
  (l1Put_any n 2 w h0 (by omega) (by omega) (by omega)).mono fun e w' ⟨he, hb⟩ => ⟨hiB n, loB n, ⟨rfl, rfl⟩, by rw [he]; simp [pt, hiB, loB], hb⟩
/-- The bytes of a frame ahead of its sum. -/
def frT (h m q : Int) (d : ByteArray) : ByteArray := ⟨#[hiB h, loB h]⟩ ++ ⟨#[hiB m, loB m]⟩ ++ ⟨#[loB q]⟩ ++ d
def frW (t : ByteArray) : ByteArray := t ++ ⟨#[hiB (crcTo t t.size : Nat), loB (crcTo t t.size : Nat)]⟩
theorem frT_size (h m q : Int) (d : ByteArray) : (frT h m q d).size = 5 + d.size := by
  unfold frT; simp only [ByteArray.size_append]; rfl
theorem frT_eq {x1 y1 x2 y2 z : UInt8} {h h' m m' q : Int} {d : ByteArray} (e1 : x1 = hiB h' ∧ y1 = loB h') (e2 : x2 = hiB m' ∧ y2 = loB m') (e3 : z = UInt8.ofNat q.toNat) (k1 : h' = h) (k2 : m' = m) :
    (⟨#[x1, y1]⟩ ++ ⟨#[x2, y2]⟩ ++ ⟨#[z]⟩ ++ d : ByteArray) = frT h m q d := by
  obtain ⟨rfl, rfl⟩ := e1; obtain ⟨rfl, rfl⟩ := e2; subst e3 k1 k2; rfl
theorem frW_eq {x y : UInt8} {t : ByteArray} (e : x = hiB (crcTo t t.size : Nat) ∧ y = loB (crcTo t t.size : Nat)) : (t ++ ⟨#[x, y]⟩ : ByteArray) = frW t := by
  obtain ⟨rfl, rfl⟩ := e; rfl
theorem frOk_all {p g : Bool} {c v q : Int} {d : ByteArray} (h : frOk p g c v q d = true) : 0 ≤ c ∧ c ≤ 1023 ∧ 0 ≤ v ∧ v ≤ 63 ∧ 0 ≤ q ∧ q ≤ 255 ∧ 1 ≤ d.size ∧ d.size ≤ 53 ∧ (g = true → p = true) := by
  simp only [frOk, inB, Bool.and_eq_true, decide_eq_true_eq, Bool.or_eq_true, Bool.not_eq_true'] at h
  obtain ⟨⟨⟨⟨⟨h0, h1⟩, h2, h3⟩, h4, h5⟩, h6, h7⟩, h8⟩ := h
  exact ⟨h0, h1, h2, h3, h4, h5, by omega, by omega, fun e => by rcases h8 with h8 | h8 <;> simp_all⟩
end Go.Proofs.YtgejiiaocgacmaaDoor
