/- What FarmHear comes to in the laws' own frames. -/
import Derived.Test.YtfojljhpobdcdaaFaF
namespace Go.Proofs.Ytfojljhpobdcdaa
open Go.RowKit
theorem fr_d {cr v n : Int} (h0 : inB cr 0 1023 = true) (h1 : inB v 0 63 = true) (h2 : inB n 0 255 = true) : frOk false false cr v n ⟨#[100]⟩ = true := by
  unfold frOk
  rw [h0, h1, h2, show (⟨#[100]⟩ : ByteArray).size = 1 from rfl]
  decide
theorem fr_parts {p g : Bool} {cr v q : Int} {d : ByteArray} (h : frOk p g cr v q d = true) : inB cr 0 1023 = true ∧ inB v 0 63 = true ∧ inB q 0 255 = true := by
  simp only [frOk, Bool.and_eq_true] at h
  exact ⟨h.1.1.1.1, h.1.1.1.2, h.1.1.2⟩
theorem fa_parts {wt ag : Bool} {c n : Int} (h : faOk wt ag c n = true) : inB c 0 3 = true ∧ inB n 0 255 = true := by
  simp only [faOk, Bool.and_eq_true] at h
  exact ⟨h.1.1, h.1.2⟩
theorem fa_calm {wt ag ag' : Bool} {c n : Int} (h : faOk wt ag c n = true) : faOk false ag' c n = true := by
  obtain ⟨h0, h1⟩ := fa_parts h
  simp [faOk, h0, h1]
theorem fh_take {ag : Bool} {c n cr v : Int} {d : ByteArray} (hf : faOk false ag c n = true) (hx : frOk false false cr v n d = true) :
    fh false false ag c n false false cr v n d true = (false, false, false, c, (n + 1) % 256, 0) := by
  have e : farB ((n - n) % 256) = false := by rw [Int.sub_self]; rfl
  have e2 : lateB ((n - n) % 256) = false := by rw [Int.sub_self]; rfl
  have e3 : ¬ 0 < (n - n) % 256 := by rw [Int.sub_self]; decide
  simp only [fh, hf, hx, fhOrd, e, e2, e3]
  simp
theorem fh_ord {s wt ag room : Bool} {c n cr v q : Int} {d : ByteArray} (hf : faOk wt ag c n = true) (hx : frOk false false cr v q d = true) :
    fh s wt ag c n false false cr v q d room = fhOrd s wt ag c n q room := by
  simp [fh, hf, hx]
theorem fh_past {s wt ag room : Bool} {c n cr v q : Int} {d : ByteArray} (hf : faOk wt ag c n = true) (hx : frOk true false cr v q d = true) :
    fh s wt ag c n true false cr v q d room = (if room = true then (s, wt, ag, (c + 1) % 4, n, 0) else (s, wt, ag, c, n, 4)) := by
  simp [fh, hf, hx]
theorem fh_shut {wt ag room : Bool} {c n cr v q : Int} {d : ByteArray} (hf : faOk wt ag c n = true) (hx : frOk false false cr v q d = true) :
    fh true wt ag c n false false cr v q d room = (true, wt, ag, c, n, 5) := by
  rw [fh_ord hf hx]; simp [fhOrd]
theorem fh_open {s wt ag room : Bool} {c n cr v q : Int} (hf : faOk wt ag c n = true) (hx : frOk true true cr v q ⟨#[0]⟩ = true) :
    fh s wt ag c n true true cr v q ⟨#[0]⟩ room = (false, false, false, (c + 1) % 4, n, 7) := by
  simp [fh, hf, hx, fhGov, openB]
end Go.Proofs.Ytfojljhpobdcdaa
