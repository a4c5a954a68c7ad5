/- FarmHear as one function on data, and both sides' contracts over it. -/
import Derived.Test.YtfojljhpobdcdaaFaG
import Derived.Test.YtfojljhpobdcdaaFaGs
import Derived.Test.YtfojljhpobdcdaaFaT
import Derived.Laws.Strings
namespace Go.Proofs.Ytfojljhpobdcdaa
open Go.ChangeShapes Go.WideShapes Go.ChangeAt Go.RowKit
set_option linter.unusedVariables false

def setOf (d : ByteArray) : Option UInt8 :=
  match d.data.toList with
  | [a, b, x] => if a = 130 ∧ b = 0 then some x else none
  | _ => none
def openB (d : ByteArray) : Bool := decide (d.data.toList = [0])
theorem ext2_list (d : ByteArray) : (d.extract 0 2).toList = d.data.toList.take 2 := by
  rw [ByteArray.toList_eq]; simp [ByteArray.data_extract]
theorem size_list (d : ByteArray) : d.size = d.data.toList.length := by simp
theorem data_cases (d : ByteArray) : d = ⟨#[0]⟩ ∨ (∃ x, d = ⟨#[130, 0, x]⟩) ∨
    (openB d = false ∧ setOf d = none ∧ (d.toList == [0]) = false ∧ ((((d.size : Int) == 3) = false) ∨ ((d.size : Int) = 3 ∧ ((d.extract 0 2).toList == [130, 0]) = false)) ∧ ((preB d = true ∧ (d.size : Int) ≠ 3) ∨ preB d = false)) := by
  unfold openB setOf preB
  rw [ext2_list, size_list, ByteArray.toList_eq]
  obtain ⟨⟨l⟩⟩ := d
  match l with
  | [] => simp
  | [a] =>
    by_cases h : a = 0
    · subst h; simp
    · simp [h]
  | [a, b] => by_cases h : b = 0 <;> by_cases k : a = 130 <;> simp [h, k]
  | [a, b, x] =>
    by_cases h : a = 130 ∧ b = 0
    · obtain ⟨rfl, rfl⟩ := h; exact .inr (.inl ⟨x, rfl⟩)
    · refine .inr (.inr ?_)
      simp
      simpa using h
  | a :: b :: x :: y :: r =>
    refine .inr (.inr ?_)
    simp
    by_cases h : a = 130 ∧ b = 0
    · refine ⟨by omega, .inl ⟨⟨by omega, h⟩, by omega⟩⟩
    · refine ⟨by omega, .inr ?_⟩
      exact fun _ => by simpa using h
abbrev Fo := Bool × Bool × Bool × Int × Int × Int
def fhGov (s wt ag : Bool) (c n : Int) (d : ByteArray) : Fo :=
  if openB d = true then (false, false, false, (c + 1) % 4, n, 7)
  else match setOf d with
    | some x => if s = true then (true, wt, ag, (c + 1) % 4, n, 7) else (false, false, false, (c + 1) % 4, (x.toNat : Int), 7)
    | none => (s, wt, ag, c, n, 6)
def fhOrd (s wt ag : Bool) (c n q : Int) (room : Bool) : Fo :=
  if s = true then (s, wt, ag, c, n, 5)
  else if farB ((q - n) % 256) = true then (true, wt, ag, c, n, 3)
  else if lateB ((q - n) % 256) = true then (s, wt, ag, c, n, 1)
  else if wt = true then (s, wt, ag, c, n, 4)
  else if 0 < (q - n) % 256 then (s, wt, true, c, n, 2)
  else if room = false then (s, true, true, c, n, 4)
  else (s, wt, false, c, (n + 1) % 256, 0)
def fh (s wt ag : Bool) (c n : Int) (p g : Bool) (cr v q : Int) (d : ByteArray) (room : Bool) : Fo :=
  if faOk wt ag c n = false then (false, false, false, 0, 0, 6)
  else if frOk p g cr v q d = false then (s, wt, ag, c, n, 6)
  else if g = true then fhGov s wt ag c n d
  else if p = true then (if room = true then (s, wt, ag, (c + 1) % 4, n, 0) else (s, wt, ag, c, n, 4))
  else fhOrd s wt ag c n q room
def foV (t : Fo) : Value := .tuple #[.agg #[.bool t.1, .bool t.2.1, .bool t.2.2.1, .int .i64 t.2.2.2.1, .int .i64 t.2.2.2.2.1], .int .i64 t.2.2.2.2.2]
theorem faOk_bounds' {wt ag : Bool} {c n : Int} (h : faOk wt ag c n = true) : 0 ≤ c ∧ c ≤ 3 ∧ 0 ≤ n ∧ n ≤ 255 ∧ (wt = true → ag = true) := by
  simp only [faOk, inB, Bool.and_eq_true, decide_eq_true_eq, Bool.or_eq_true, Bool.not_eq_true'] at h
  obtain ⟨⟨⟨h0, h1⟩, h2, h3⟩, h4⟩ := h
  exact ⟨h0, h1, h2, h3, fun e => by rcases h4 with h4 | h4 <;> simp_all⟩
theorem frOk_bounds {p g : Bool} {cr v q : Int} {d : ByteArray} (h : frOk p g cr v q d = true) : 0 ≤ q ∧ q ≤ 255 ∧ (g = true → p = true) := by
  simp only [frOk, inB, Bool.and_eq_true, decide_eq_true_eq, Bool.or_eq_true, Bool.not_eq_true'] at h
  obtain ⟨⟨⟨_, h2, h3⟩, _⟩, h4⟩ := h
  exact ⟨h2, h3, fun e => by rcases h4 with h4 | h4 <;> simp_all⟩
theorem implFarmHear_any (s wt ag : Bool) (c n : Int) (p g : Bool) (cr v q : Int) (d : ByteArray) (room : Bool) (w : World) (hd : d.size ≤ maxLen) :
    Calls Try.prog 9 #[.agg #[.bool s, .bool wt, .bool ag, .int .i64 c, .int .i64 n], .agg #[.bool p, .bool g, .int .i64 cr, .int .i64 v, .int .i64 q, .string d], .bool room] w fun e w' => e = .returned (foV (fh s wt ag c n p g cr v q d room)) ∧ Below w.heap.size w w' := by
  cases hf : faOk wt ag c n
  · rw [show fh s wt ag c n p g cr v q d room = (false, false, false, 0, 0, 6) from by simp [fh, hf]]
    exact hear_bad s wt ag p g room c n cr v q d w hd hf
  cases hx : frOk p g cr v q d
  · rw [show fh s wt ag c n p g cr v q d room = (s, wt, ag, c, n, 6) from by simp [fh, hf, hx]]
    exact hear_none s wt ag p g room c n cr v q d w hd hf hx
  obtain ⟨h0, h3, hn0, hn1, hwa⟩ := faOk_bounds' hf
  obtain ⟨hq0, hq1, hgp⟩ := frOk_bounds hx
  cases g
  · cases p
    · have e0 : fh s wt ag c n false false cr v q d room = fhOrd s wt ag c n q room := by simp [fh, hf, hx]
      rw [e0]
      cases s
      · cases hfar : farB ((q - n) % 256)
        · cases hl : lateB ((q - n) % 256)
          · cases wt
            · by_cases hz : 0 < (q - n) % 256
              · rw [show fhOrd false false ag c n q room = (false, false, true, c, n, 2) from by simp [fhOrd, hfar, hl, hz]]
                exact hear_takes_early ag room c n cr v q d w hd hf hx hn0 hn1 hq0 hq1 hfar hl hz
              · cases room
                · rw [show fhOrd false false ag c n q false = (false, true, true, c, n, 4) from by simp [fhOrd, hfar, hl, hz]]
                  exact hear_takes_full ag c n cr v q d w hd hf hx hn0 hn1 hq0 hq1 hfar hl hz
                · rw [show fhOrd false false ag c n q true = (false, false, false, c, (n + 1) % 256, 0) from by simp [fhOrd, hfar, hl, hz]]
                  rw [show (n + 1) % 256 = (q + 1) % 256 from by omega]
                  exact hear_takes_take ag c n cr v q d w hd hf hx hn0 hn1 hq0 hq1 hfar hl hz
            · rw [show fhOrd false true ag c n q room = (false, true, ag, c, n, 4) from by simp [fhOrd, hfar, hl]]
              exact hear_waits_near ag room c n cr v q d w hd hf hx hn0 hn1 hq0 hq1 hfar hl
          · rw [show fhOrd false wt ag c n q room = (false, wt, ag, c, n, 1) from by simp [fhOrd, hfar, hl]]
            cases wt
            · exact hear_takes_late ag room c n cr v q d w hd hf hx hn0 hn1 hq0 hq1 hfar hl
            · exact hear_waits_late ag room c n cr v q d w hd hf hx hn0 hn1 hq0 hq1 hfar hl
        · rw [show fhOrd false wt ag c n q room = (true, wt, ag, c, n, 3) from by simp [fhOrd, hfar]]
          cases wt
          · exact hear_takes_far ag room c n cr v q d w hd hf hx hn0 hn1 hq0 hq1 hfar
          · exact hear_waits_far ag room c n cr v q d w hd hf hx hn0 hn1 hq0 hq1 hfar
      · rw [show fhOrd true wt ag c n q room = (true, wt, ag, c, n, 5) from by simp [fhOrd]]
        exact hear_shut wt ag room c n cr v q d w hd hf hx hn0 hn1 hq0 hq1
    · cases room
      · rw [show fh s wt ag c n true false cr v q d false = (s, wt, ag, c, n, 4) from by simp [fh, hf, hx]]
        exact hear_past_no s wt ag c n cr v q d w hd hf hx
      · rw [show fh s wt ag c n true false cr v q d true = (s, wt, ag, (c + 1) % 4, n, 0) from by simp [fh, hf, hx]]
        exact hear_past_yes s wt ag c n cr v q d w hd hf hx h0 h3
  · have hp := hgp rfl
    subst hp
    have e0 : fh s wt ag c n true true cr v q d room = fhGov s wt ag c n d := by simp [fh, hf, hx]
    rw [e0]
    rcases data_cases d with rfl | ⟨x, rfl⟩ | ⟨k1, k2, k3, k4, k5⟩
    · rw [show fhGov s wt ag c n ⟨#[0]⟩ = (false, false, false, (c + 1) % 4, n, 7) from by simp [fhGov, openB]]
      exact impl_gov_open s wt ag room c n cr v q w hf hx h0 h3
    · cases s
      · rw [show fhGov false wt ag c n ⟨#[130, 0, x]⟩ = (false, false, false, (c + 1) % 4, (x.toNat : Int), 7) from by simp [fhGov, openB, setOf]]
        cases wt
        · exact impl_gov_set_takes ag room c n cr v q x w hf hx h0 h3
        · exact impl_gov_set_waits ag room c n cr v q x w hf hx h0 h3
      · rw [show fhGov true wt ag c n ⟨#[130, 0, x]⟩ = (true, wt, ag, (c + 1) % 4, n, 7) from by simp [fhGov, openB, setOf]]
        exact impl_gov_set_shut wt ag room c n cr v q x w hf hx h0 h3
    · rw [show fhGov s wt ag c n d = (s, wt, ag, c, n, 6) from by simp [fhGov, k1, k2]]
      rcases k5 with ⟨kp, ks⟩ | kp
      · exact impl_gov_bad_pre s wt ag room c n cr v q d w hd hf hx h0 h3 k3 kp ks
      · exact impl_gov_bad_not s wt ag room c n cr v q d w hd hf hx h0 h3 k3 kp
theorem specFarmHear_any (s wt ag : Bool) (c n : Int) (p g : Bool) (cr v q : Int) (d : ByteArray) (room : Bool) (w : World) (hd : d.size ≤ maxLen) :
    Calls Try.prog 10 #[.agg #[.bool s, .bool wt, .bool ag, .int .i64 c, .int .i64 n], .agg #[.bool p, .bool g, .int .i64 cr, .int .i64 v, .int .i64 q, .string d], .bool room] w fun e w' => e = .returned (foV (fh s wt ag c n p g cr v q d room)) ∧ Below w.heap.size w w' := by
  cases hf : faOk wt ag c n
  · rw [show fh s wt ag c n p g cr v q d room = (false, false, false, 0, 0, 6) from by simp [fh, hf]]
    exact spec_bad s wt ag p g room c n cr v q d w hd hf
  cases hx : frOk p g cr v q d
  · rw [show fh s wt ag c n p g cr v q d room = (s, wt, ag, c, n, 6) from by simp [fh, hf, hx]]
    exact spec_none s wt ag p g room c n cr v q d w hd hf hx
  obtain ⟨h0, h3, hn0, hn1, hwa⟩ := faOk_bounds' hf
  obtain ⟨hq0, hq1, hgp⟩ := frOk_bounds hx
  cases g
  · cases p
    · have e0 : fh s wt ag c n false false cr v q d room = fhOrd s wt ag c n q room := by simp [fh, hf, hx]
      rw [e0]
      cases s
      · cases hfar : farB ((q - n) % 256)
        · cases hl : lateB ((q - n) % 256)
          · cases wt
            · by_cases hz : 0 < (q - n) % 256
              · rw [show fhOrd false false ag c n q room = (false, false, true, c, n, 2) from by simp [fhOrd, hfar, hl, hz]]
                exact spec_order false false ag room false false true c n cr v q c n 2 d w hd hf hx (fun W => ord_early ag room c n q W hn0 hn1 hq0 hq1 hfar hl hz)
              · cases room
                · rw [show fhOrd false false ag c n q false = (false, true, true, c, n, 4) from by simp [fhOrd, hfar, hl, hz]]
                  exact spec_order false false ag false false true true c n cr v q c n 4 d w hd hf hx (fun W => ord_full ag c n q W hn0 hn1 hq0 hq1 hfar hl hz)
                · rw [show fhOrd false false ag c n q true = (false, false, false, c, (n + 1) % 256, 0) from by simp [fhOrd, hfar, hl, hz]]
                  exact spec_order false false ag true false false false c n cr v q c ((n + 1) % 256) 0 d w hd hf hx (fun W => ord_take ag c n q W hn0 hn1 hq0 hq1 hfar hl hz)
            · rw [show fhOrd false true ag c n q room = (false, true, ag, c, n, 4) from by simp [fhOrd, hfar, hl]]
              exact spec_order false true ag room false true ag c n cr v q c n 4 d w hd hf hx (fun W => ord_waits ag room c n q W hn0 hn1 hq0 hq1 hfar hl)
          · rw [show fhOrd false wt ag c n q room = (false, wt, ag, c, n, 1) from by simp [fhOrd, hfar, hl]]
            exact spec_order false wt ag room false wt ag c n cr v q c n 1 d w hd hf hx (fun W => ord_late wt ag room c n q W hn0 hn1 hq0 hq1 hfar hl)
        · rw [show fhOrd false wt ag c n q room = (true, wt, ag, c, n, 3) from by simp [fhOrd, hfar]]
          exact spec_order false wt ag room true wt ag c n cr v q c n 3 d w hd hf hx (fun W => ord_far wt ag room c n q W hn0 hn1 hq0 hq1 hfar)
      · rw [show fhOrd true wt ag c n q room = (true, wt, ag, c, n, 5) from by simp [fhOrd]]
        exact spec_order true wt ag room true wt ag c n cr v q c n 5 d w hd hf hx (fun W => ord_shut wt ag room c n q W hn0 hn1 hq0 hq1)
    · cases room
      · rw [show fh s wt ag c n true false cr v q d false = (s, wt, ag, c, n, 4) from by simp [fh, hf, hx]]
        exact spec_past_no s wt ag c n cr v q d w hd hf hx
      · rw [show fh s wt ag c n true false cr v q d true = (s, wt, ag, (c + 1) % 4, n, 0) from by simp [fh, hf, hx]]
        exact spec_past_yes s wt ag c n cr v q d w hd hf hx h0 h3
  · have hp := hgp rfl
    subst hp
    have e0 : fh s wt ag c n true true cr v q d room = fhGov s wt ag c n d := by simp [fh, hf, hx]
    rw [e0]
    rcases data_cases d with rfl | ⟨x, rfl⟩ | ⟨k1, k2, k3, k4, k5⟩
    · rw [show fhGov s wt ag c n ⟨#[0]⟩ = (false, false, false, (c + 1) % 4, n, 7) from by simp [fhGov, openB]]
      exact spec_gov_open s wt ag room c n cr v q w hf hx h0 h3
    · cases s
      · rw [show fhGov false wt ag c n ⟨#[130, 0, x]⟩ = (false, false, false, (c + 1) % 4, (x.toNat : Int), 7) from by simp [fhGov, openB, setOf]]
        cases wt
        · exact spec_gov_set_takes ag room c n cr v q x w hf hx h0 h3
        · exact spec_gov_set_waits ag room c n cr v q x w hf hx h0 h3
      · rw [show fhGov true wt ag c n ⟨#[130, 0, x]⟩ = (true, wt, ag, (c + 1) % 4, n, 7) from by simp [fhGov, openB, setOf]]
        exact spec_gov_set_shut wt ag room c n cr v q x w hf hx h0 h3
    · rw [show fhGov s wt ag c n d = (s, wt, ag, c, n, 6) from by simp [fhGov, k1, k2]]
      rcases k4 with ks | ⟨ks, kp⟩
      · exact spec_gov_bad_size s wt ag room c n cr v q d w hd hf hx h0 h3 k3 ks
      · exact spec_gov_bad_head s wt ag room c n cr v q d w hd hf hx h0 h3 k3 ks kp
end Go.Proofs.Ytfojljhpobdcdaa
