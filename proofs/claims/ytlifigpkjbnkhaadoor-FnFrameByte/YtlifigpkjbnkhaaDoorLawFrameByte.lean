/- Proved: laws.FnFrameByte returns true at every two slices of bytes (a frame of which one byte of its data or its sum is turned is none), and leaves them as they were, as a tied card: the two errors of impl hold what the program's text lays in them. No other condition. -/
import Derived.Test.YtlifigpkjbnkhaaDoorDrawFr
import Derived.Test.YtlifigpkjbnkhaaDoorFgB
import Derived.Test.YtlifigpkjbnkhaaDoorCrcL
import Derived.Test.YtlifigpkjbnkhaaDoorTurn
import Derived.Test.YtlifigpkjbnkhaaDoorCards
import Derived.Test.YtlifigpkjbnkhaaDoorTie
import Derived.LaidMore
import Derived.Stop.LaidErr
import Derived.Stop.Joined
import Derived.Stop.ErrReads
import Derived.SevenTiedAt
import Derived.OpenShut
import Derived.ShutString
namespace Go.Proofs.YtlifigpkjbnkhaaDoor
open Go.ChangeShapes Go.WideShapes Go.ChangeAt Go.RowKit
open Go.ChangeMaps (open_string shut_string)
set_option linter.unusedVariables false

theorem frPut_size (p g : Bool) (c v q : Int) (d : ByteArray) : (frPut p g c v q d).size ≤ 60 ∧ (frOk p g c v q d = true → 1 ≤ (frPut p g c v q d).size) ∧ (frOk p g c v q d = false → frPut p g c v q d = ⟨#[]⟩) := by
  unfold frPut
  cases h : frOk p g c v q d with
  | false => exact ⟨Nat.zero_le _, (fun h => by cases h), fun _ => rfl⟩
  | true =>
    obtain ⟨_, _, _, _, _, _, h6, h7, _⟩ := frOk_all h
    rw [if_pos rfl]
    have hz : (frW (frT (c + flg p g) (v * 1024 + d.size + 6) q d)).size = 7 + d.size := by
      rw [← lst_size, frW_lst]; simp [lst_size]; omega
    rw [hz]
    exact ⟨by omega, (fun _ => by omega), (fun h => by cases h)⟩
theorem crc_frW (t : ByteArray) : crcL (lst (frW t)) = 0 := by
  unfold frW
  rw [lst_append]
  have hl := crcL_lt (lst t)
  have e : crcTo t t.size = crcL (lst t) := crcTo_all t
  rw [e]
  show crcL (lst t ++ [hiB (crcL (lst t) : Nat), loB (crcL (lst t) : Nat)]) = 0
  apply crcL_end
  · unfold hiB; rw [UInt8.toNat_ofNat']; simp only [Int.toNat_natCast]; try omega
  · unfold loB; rw [UInt8.toNat_ofNat']; simp only [Int.toNat_natCast]; try omega
theorem byteAt_setB (s : ByteArray) (k v i : Nat) (h : i ≠ k) : byteAt (setB s k v) i = byteAt s i := by
  unfold byteAt setB
  simp only [List.getD]
  rw [List.getElem?_set_ne (fun e => h e.symm)]
theorem fgN_put {p g : Bool} {c v q : Int} {d : ByteArray} (h : frOk p g c v q d = true) : fgN (frPut p g c v q d) = (frPut p g c v q d).size := by
  obtain ⟨h0, h1, h2, h3, h4, h5, h6, h7, h8⟩ := frOk_all h
  have hl := frW_lst (c + flg p g) (v * 1024 + d.size + 6) q d
  have hp : frPut p g c v q d = frW (frT (c + flg p g) (v * 1024 + d.size + 6) q d) := by unfold frPut; rw [if_pos h]
  rw [hp]
  have hz : (frW (frT (c + flg p g) (v * 1024 + d.size + 6) q d)).size = 7 + d.size := by
    rw [← lst_size, hl]; simp [lst_size]; omega
  rw [hz]
  unfold fgN
  have g2 : gt (frW (frT (c + flg p g) (v * 1024 + d.size + 6) q d)) 2 2 = (v * 1024 + d.size + 6).toNat := by
    rw [gt2, byteAt_lst, byteAt_lst, hl]
    exact hilo (by omega) (by omega)
  rw [g2]; omega
theorem fg_turned {p g : Bool} {c v q : Int} {d : ByteArray} (h : frOk p g c v q d = true) (hNs : fgN (frPut p g c v q d) = (frPut p g c v q d).size) {k x : Nat} (hk : 4 ≤ k) (hk2 : k < (frPut p g c v q d).size) (hx : x < 256) (hx0 : x ≠ 0) :
    fgOk (setB (frPut p g c v q d) k (byteAt (frPut p g c v q d) k ^^^ x)) = false := by
  cases hu : fgOk (setB (frPut p g c v q d) k (byteAt (frPut p g c v q d) k ^^^ x)) with
  | false => rfl
  | true =>
    exfalso
    have hs : crcL (lst (frPut p g c v q d)) = 0 := by unfold frPut; rw [if_pos h]; exact crc_frW _
    obtain ⟨bk, _⟩ := fg_back h ⟨#[]⟩ (by decide)
    have e0 : frPut p g c v q d ++ ⟨#[]⟩ = frPut p g c v q d := by apply lst_inj; rw [lst_append]; show lst _ ++ [] = _; simp
    rw [e0] at bk
    generalize frPut p g c v q d = s at *
    have b8 := fgOk_8 bk
    have u8 := fgOk_8 hu
    have hl := byteAt_lt s k
    have hvl : byteAt s k ^^^ x < 256 := Nat.xor_lt_two_pow (n := 8) hl hx
    have hn : fgN (setB s k (byteAt s k ^^^ x)) = fgN s := by
      unfold fgN
      rw [gt2, gt2, byteAt_setB _ _ _ _ (by omega), byteAt_setB _ _ _ _ (by omega)]
    obtain ⟨l, r, b, hl1, hl2, hb⟩ := setB_split s k (byteAt s k ^^^ x) hk2
    have hne : crcL (lst (setB s k (byteAt s k ^^^ x))) ≠ crcL (lst s) := by
      unfold lst
      rw [hl1, hl2]
      refine crcL_turn l r _ b (fun e => ?_)
      have e2 := congrArg UInt8.toNat e
      rw [UInt8.toNat_ofNat', hb, Nat.mod_eq_of_lt hvl] at e2
      have e3 := congrArg (byteAt s k ^^^ ·) e2
      simp only [← Nat.xor_assoc, Nat.xor_self, Nat.zero_xor] at e3
      exact hx0 e3
    have hsz := setB_size s k (byteAt s k ^^^ x)
    generalize setB s k (byteAt s k ^^^ x) = u at *
    simp only [fgOk, Bool.and_eq_true, decide_eq_true_eq] at hu bk
    have hpu := hu.2
    have hps := bk.2
    have hput : ∀ t : ByteArray, 8 ≤ fgN t → fgN t ≤ t.size → fgPut t = t.extract 0 (fgN t) → crcL (lst (t.extract 0 (fgN t))) = 0 := fun t h1 h2 e => by
      rw [← e]
      unfold fgPut at e ⊢
      unfold frPut at e ⊢
      split
      · exact crc_frW _
      · rename_i hn
        rw [if_neg hn] at e
        have := congrArg ByteArray.size e
        have h0 : (⟨#[]⟩ : ByteArray).size = 0 := rfl
        rw [ByteArray.size_extract] at this
        omega
    have hsu := hput u u8.1 u8.2.1 hpu
    have eu : u.extract 0 (fgN u) = u := by
      apply lst_inj
      rw [lst_ext, hn, hNs, ← hsz, List.drop_zero, Nat.sub_zero, ← lst_size, List.take_length]
    rw [eu] at hsu
    exact hne (hsu.trans hs.symm)
set_option maxRecDepth 100000 in
set_option maxHeartbeats 4000000 in
theorem FnFrameByte_walk (a0 : Option Addr) (l0 c0 : Nat) (z0 : List Int) (a1 : Option Addr) (l1 c1 : Nat) (z1 : List Int) (w : World) (h0 : IsRow .u8 w a0 l0 c0 z0) (h1 : IsRow .u8 w a1 l1 c1 z1) (he : Errs w) :
    Calls Tryd.prog 6 #[.slice a0 l0 c0, .slice a1 l1 c1] w fun e w' => e = .returned (.bool true) ∧ Below w.heap.size w w' := by
  by_cases hb0 : 1048576 < (l0 : Int)
  · go_enter Tryd.func6, Tryd.ntmps6
    go_wp2_with fail
    go_ret
    exact ⟨rfl, Below.refl _ _⟩
  by_cases hb1 : 1048576 < (l1 : Int)
  · go_enter Tryd.func6, Tryd.ntmps6
    go_wp2_with fail
    go_ret
    exact ⟨rfl, Below.refl _ _⟩
  have R0 : Hid _ := h0
  have R1 : Hid _ := h1
  have HE : Hid (Errs w) := he
  have HB : Hid (Below w.heap.size w w) := Below.refl _ _
  clear h0 h1 he
  go_enter Tryd.func6, Tryd.ntmps6
  go_wp2_with fail
  refine (DrawFramePut_any a0 l0 c0 z0 _ R0.out).mono ?_
  rintro e w1 ⟨p, g, c, v, q, d, hdz, rfl, hb⟩
  replace HB : Hid (Below w.heap.size w w1) := HB.out.trans (hb.mono HB.out.size)
  replace HE : Hid (Errs w1) := HE.out.below hb
  clear hb
  have hdm : d.size ≤ maxLen := by unfold maxLen; omega
  have F : Hid ((w1.alloc (.cells #[.bool p, .bool g, .int .i64 c, .int .i64 v, .int .i64 q, .string d] 23)).heap[w1.heap.size]? = some (.cells #[.bool p, .bool g, .int .i64 c, .int .i64 v, .int .i64 q, .string d] 23)) := get_new rfl
  replace HB : Hid (Below w.heap.size w (w1.alloc (.cells #[.bool p, .bool g, .int .i64 c, .int .i64 v, .int .i64 q, .string d] 23))) := HB.out.alloc HB.out.size _
  replace HE : Hid (Errs (w1.alloc (.cells #[.bool p, .bool g, .int .i64 c, .int .i64 v, .int .i64 q, .string d] 23))) := HE.out.below ((Below.refl _ _).alloc (Nat.le_refl _) _)
  go_wp2_with fail
  refine (implFramePut_any p g c v q d _ hdm).mono ?_
  rintro e w2 ⟨rfl, hb⟩
  replace F : Hid (w2.heap[w1.heap.size]? = some (.cells #[.bool p, .bool g, .int .i64 c, .int .i64 v, .int .i64 q, .string d] 23)) := get_below hb F.out (size_of_get F.out)
  replace HB : Hid (Below w.heap.size w w2) := HB.out.trans (hb.mono HB.out.size)
  replace HE : Hid (Errs w2) := HE.out.below hb
  clear hb
  obtain ⟨hz1, hz2, hz3⟩ := frPut_size p g c v q d
  have HNS : Hid (frOk p g c v q d = true → fgN (frPut p g c v q d) = (frPut p g c v q d).size) := fun h => fgN_put h
  have HTU : Hid (∀ k x : Nat, frOk p g c v q d = true → 4 ≤ k → k < (frPut p g c v q d).size → x < 256 → x ≠ 0 → fgOk (setB (frPut p g c v q d) k (byteAt (frPut p g c v q d) k ^^^ x)) = false) := fun k x h h1 h2 h3 h4 => fg_turned h (fgN_put h) h1 h2 h3 h4
  have HS8 : Hid (frOk p g c v q d = true → 8 ≤ (frPut p g c v q d).size) := fun h => by
    have e := fgN_put h
    obtain ⟨bk, _⟩ := fg_back h ⟨#[]⟩ (by decide)
    have e0 : frPut p g c v q d ++ ⟨#[]⟩ = frPut p g c v q d := by apply lst_inj; rw [lst_append]; show lst _ ++ [] = _; simp
    rw [e0] at bk
    have := (fgOk_8 bk).1
    omega
  have HSP : Hid (∀ W, Calls Tryd.prog 21 #[.agg #[.bool p, .bool g, .int .i64 c, .int .i64 v, .int .i64 q, .string d]] W fun e w' => e = .returned (.string (frPut p g c v q d)) ∧ Below W.heap.size W w') := fun W => specFramePut_any _ _ _ _ _ _ _ hdm
  generalize frPut p g c v q d = s at *
  have hteq : (s.toList == s.toList) = true := by simp
  generalize hf : frOk p g c v q d = b at *
  clear hf
  obtain ⟨F_0, F_1, F_2, F_3, F_4, F_5⟩ := cells6_of F.out
  go_wp2_with fail
  clear F_0 F_1 F_2 F_3 F_4 F_5
  refine Calls.mono (HSP.out _) ?_
  rintro e w3 ⟨rfl, hb⟩
  replace F : Hid (w3.heap[w1.heap.size]? = some (.cells #[.bool p, .bool g, .int .i64 c, .int .i64 v, .int .i64 q, .string d] 23)) := get_below hb F.out (size_of_get F.out)
  replace HB : Hid (Below w.heap.size w w3) := HB.out.trans (hb.mono HB.out.size)
  replace HE : Hid (Errs w3) := HE.out.below hb
  clear hb
  cases b with
  | false =>
    obtain rfl := hz3 rfl
    clear hz2 hz3 HNS HTU HS8
    obtain ⟨F_0, F_1, F_2, F_3, F_4, F_5⟩ := cells6_of F.out
    go_wp2_with fail
    clear F_0 F_1 F_2 F_3 F_4 F_5
    refine Calls.mono (HSP.out _) ?_
    rintro e w4 ⟨rfl, hb⟩
    replace F : Hid (w4.heap[w1.heap.size]? = some (.cells #[.bool p, .bool g, .int .i64 c, .int .i64 v, .int .i64 q, .string d] 23)) := get_below hb F.out (size_of_get F.out)
    replace HB : Hid (Below w.heap.size w w4) := HB.out.trans (hb.mono HB.out.size)
    replace HE : Hid (Errs w4) := HE.out.below hb
    clear hb
    go_wp2_with fail
    go_ret
    exact ⟨rfl, HB.out⟩
  | true =>
    have hs8 := HS8.out rfl
    have hne : s.toList.isEmpty = false := by
      rw [ByteArray.toList_eq]
      cases hx : s.data.toList with
      | nil => have h0 : s.data.toList.length = s.size := by simp
               rw [hx] at h0; simp at h0; omega
      | cons a l => rfl
    obtain ⟨cap', W, hcv, hcell, hfz, hbW, hgW⟩ := bytes_new s w3
    have hkm : l1 % (s.size - 4) < s.size - 4 := Nat.mod_lt _ (by omega)
    have e1 : True → (l1 : Int) % ((s.size : Int) - 4) = ((l1 % (s.size - 4) : Nat) : Int) := fun _ => by rw [show ((s.size : Int) - 4) = ((s.size - 4 : Nat) : Int) from by omega]; simp
    have hne0 : ((s.size : Int) - 4 == 0) = false := by rw [beq_eq_false_iff_ne]; omega
    generalize l1 % (s.size - 4) = k0 at hkm e1
    have e2 : True → (4 : Int) + (k0 : Int) = ((4 + k0 : Nat) : Int) := fun _ => by omega
    have hks : 4 + k0 < s.size := by omega
    have hk4 : 4 ≤ 4 + k0 := by omega
    generalize 4 + k0 = k at hks hk4 e2
    have hki : (k : Int) < (s.size : Int) := by omega
    have hkc := hcell _ hks
    have hkf := hfz _ hks
    have hbl := byteAt_lt s k
    have hx : bits .xor .u8 ((byteAt s k : Nat) : Int) (1 + (l0 : Int) % 255) = ((byteAt s k ^^^ (1 + l0 % 255) : Nat) : Int) := by
      rw [show 1 + (l0 : Int) % 255 = ((1 + l0 % 255 : Nat) : Int) from by omega, u8_xor_nat _ _ (by omega) (by omega)]
    have hvl : byteAt s k ^^^ (1 + l0 % 255) < 256 := Nat.xor_lt_two_pow (n := 8) hbl (by omega)
    have hno := HTU.out k (1 + l0 % 255) rfl hk4 hks (by omega) (by omega)
    have hct := bytes_turned s W w3.heap.size cap' k _ hcell hks hvl
    have hus : (setB s k (byteAt s k ^^^ (1 + l0 % 255))).size = s.size := setB_size _ _ _
    generalize setB s k (byteAt s k ^^^ (1 + l0 % 255)) = u at hct hno hus
    generalize byteAt s k ^^^ (1 + l0 % 255) = v1 at hx hct hvl
    have hmu : u.size ≤ maxLen := by rw [hus]; unfold maxLen; omega
    have HI : Hid (∀ W, Errs W → Calls Tryd.prog 9 #[.string u] W fun e w' => e = .returned (.tuple #[.agg #[.bool false, .bool false, .int .i64 0, .int .i64 0, .int .i64 0, .string ⟨#[]⟩], .bool false]) ∧ Below W.heap.size W w') := fun W he => by
      have := implFrameGet_any u W hmu he
      have hv : fgV u = .agg #[.bool false, .bool false, .int .i64 0, .int .i64 0, .int .i64 0, .string ⟨#[]⟩] := by unfold fgV; rw [hno]; rfl
      rw [hno, hv] at this; exact this
    have HBW : Hid (Below w.heap.size w (W.setCell ⟨w3.heap.size, k, none⟩ (.int .u8 (v1 : Int)))) := (HB.out.trans (hbW.mono HB.out.size)).setCell HB.out.size _
    have HEW : Hid (Errs (W.setCell ⟨w3.heap.size, k, none⟩ (.int .u8 (v1 : Int)))) := HE.out.below (hbW.setCell (Nat.le_refl _) _)
    clear hcell hfz hbW HTU HS8 HNS hz2 hz3 hno hus HB HE F
    go_wp2_with fail
    refine Calls.mono (HI.out _ HEW.out) ?_
    rintro e wz ⟨rfl, hb⟩
    have HB : Hid (Below w.heap.size w wz) := HBW.out.trans (hb.mono HBW.out.size)
    clear hb
    have X : Hid ((wz.alloc (.cells #[.bool false, .bool false, .int .i64 0, .int .i64 0, .int .i64 0, .string ⟨#[]⟩] 23)).heap[wz.heap.size]? = some (.cells #[.bool false, .bool false, .int .i64 0, .int .i64 0, .int .i64 0, .string ⟨#[]⟩] 23)) := get_new rfl
    replace HB : Hid (Below w.heap.size w (wz.alloc (.cells #[.bool false, .bool false, .int .i64 0, .int .i64 0, .int .i64 0, .string ⟨#[]⟩] 23))) := HB.out.alloc HB.out.size _
    obtain ⟨X_0, X_1, X_2, X_3, X_4, X_5⟩ := cells6_of X.out
    go_wp2_with fail
    clear X_0 X_1 X_2 X_3 X_4 X_5
    go_ret
    exact ⟨rfl, HB.out⟩
theorem FnFrameByte_g0 : Tryd.prog.globalNamed "loop.example/skyway/impl.errShort" = some 1 := by kernel_rfl
theorem FnFrameByte_t0 : (Tryd.prog.globals[1]?).map (·.type) = some 45 := by kernel_rfl
theorem FnFrameByte_g1 : Tryd.prog.globalNamed "loop.example/skyway/impl.errOther" = some 0 := by kernel_rfl
theorem FnFrameByte_t1 : (Tryd.prog.globals[0]?).map (·.type) = some 45 := by kernel_rfl
theorem FnFrameByte_star : "*" ++ "errors.errorString" = "*errors.errorString" := by decide
theorem FnFrameByte_rowP (u : TypeId) (h : Tryd.prog.typeName? 3 u = some "*errors.errorString") : u = 94 :=
  typeName_ptr_named (nm := "errors.errorString") (by rw [FnFrameByte_star]; kernel_rfl) (by kernel_rfl) (by decide) u (by rw [FnFrameByte_star]; exact h)
theorem FnFrameByte_c1 : Tryd.prog.cellsOf 112 = 1 := by kernel_rfl
theorem FnFrameByte_c2 : Tryd.prog.cellsOf 9 = 1 := by kernel_rfl
def FnFrameByte_list : List (String × DataW Unit) := [("loop.example/skyway/impl.errShort", Rows.laid_loop_example_skyway_impl_errShort), ("loop.example/skyway/impl.errOther", Rows.laid_loop_example_skyway_impl_errOther)]
theorem FnFrameByte_met (os : Os) (args : Array Value) : laidMetH Tryd.prog FnFrameByte_list ((World.doorLaid Tryd.prog 400 os).forCall (fun _ _ => 0) ⟨#[], args, []⟩).memory :=
  laidMetH_of_parts3 (fuel := 8) (laidMet_of_run' 8 (by kernel_rfl) (by kernel_rfl)) (by kernel_rfl) (by kernel_rfl)
theorem FnFrameByte_var {W W' : World} {n : String} {cs : Array Value} (k : Below W.heap.size W W') (h : W.var? Tryd.prog n = some cs) : W'.var? Tryd.prog n = some cs := by
  unfold World.var? at h ⊢
  cases hg : Tryd.prog.globalNamed n with
  | none => simp [hg] at h
  | some g =>
    simp only [hg, Option.bind_some] at h ⊢
    have hlt : g < W.heap.size := by
      rcases Nat.lt_or_ge g W.heap.size with h' | h'
      · exact h'
      · simp [Array.getElem?_eq_none h'] at h
    rw [k.block g hlt]; exact h
theorem FnFrameByte_of {W : World} (h : laidMetH Tryd.prog FnFrameByte_list W) : ∃ x0 x1 : Addr, W.var? Tryd.prog "loop.example/skyway/impl.errShort" = some #[.iface 94 (.pointer (some x0))] ∧ W.var? Tryd.prog "loop.example/skyway/impl.errOther" = some #[.iface 94 (.pointer (some x1))] := by
  rw [MakeChecks.laidMetH_plain _ _ _ (by kernel_rfl)] at h
  obtain ⟨x0, _, v0, _⟩ := laid_sentinel h FnFrameByte_g0 FnFrameByte_t0 Tryd.underlying45 FnFrameByte_rowP Tryd.underlying94 Tryd.underlying112 rfl rfl Tryd.underlying9 FnFrameByte_c1 FnFrameByte_c2
  obtain ⟨x1, _, v1, _⟩ := laid_sentinel (h).tail FnFrameByte_g1 FnFrameByte_t1 Tryd.underlying45 FnFrameByte_rowP Tryd.underlying94 Tryd.underlying112 rfl rfl Tryd.underlying9 FnFrameByte_c1 FnFrameByte_c2
  exact ⟨x0, x1, v0, v1⟩
theorem FnFrameByte_own : ownKnob Tryd.prog.godebug = none := by kernel_rfl
theorem FnFrameByte_laidOut : laidOutB Tryd.prog = true := by kernel_rfl
set_option maxRecDepth 100000 in
theorem FnFrameByte_lifted (os : Os) (started : os.Started) (H : Type) (enc : TypeId × Value → H) :
    ReturnsInHanded {} Tryd.checked os 6 .any (fun w args => (Rows.fnFrameByteSpec.pre enc Tryd.prog Tryd.f6 [] false w args ∧ laidMetH Tryd.prog FnFrameByte_list w) ∧ sizedMet enc Tryd.prog Tryd.f6 (OpenSpec.ofChange Rows.fnFrameByteSpec) false w args) (Rows.fnFrameByteSpec.post enc Tryd.prog Tryd.f6 false true false false) := by
  refine returnsInHanded_of_change_and (C := Tryd.checked) (X := fun w _ => laidMetH Tryd.prog FnFrameByte_list w) (fun _ _ _ hh h => h.of_heap hh) FnFrameByte_own started (by kernel_rfl) Tryd.func6
    (ChangeSpec.witness_shaped (enc := enc) (C := Tryd.checked) (os := os) (X := fun w _ => laidMetH Tryd.prog FnFrameByte_list w) false (World.doorLaid Tryd.prog 400 os) #[.slice none 0 0, .slice none 0 0] 8 rfl (World.shaped_of_RefB (by kernel_rfl) (by kernel_rfl)) (by kernel_rfl) (by kernel_rfl) (by kernel_rfl) (FnFrameByte_met os _)) ?_
  intro W base args ds gs before hval0 hW hcnd _ hL _
  have hval : ∀ (j : Nat) t v, Tryd.f6.params[j]? = some t → args[j]? = some v → Value.okWide Tryd.prog W .any base t v := hval0
  have hW' := hW
  obtain ⟨p, q, hA0, hV0, rfl, hfz, hnd⟩ := hW
  have hV : DataW.TrodVars enc Tryd.prog W (fun _ => true) ["loop.example/skyway/impl.errShort", "loop.example/skyway/impl.errOther"] gs q := hV0
  obtain ⟨x0, x1, hv0, hv1⟩ := FnFrameByte_of hL
  have hA : DataW.TrodAll enc Tryd.prog W 0 (fun _ => true) true Tryd.f6.params.toList args.toList ds p := hA0
  rw [Tryd.params6] at hA hval
  obtain ⟨v0, vs0, d0, ds0, p0, q0, hargs, rfl, rfl, h0, r0⟩ := trodAll_cons hA
  obtain ⟨v1, vs1, d1, ds1, p1, q1, rfl, rfl, rfl, h1, r1⟩ := trodAll_cons r0
  obtain ⟨rfl, rfl, rfl⟩ := trodAll_nil r1
  obtain rfl : args = #[v0, v1] := by cases args; simp_all
  obtain ⟨rfl, rfl⟩ := hV.unique (vars_read2 enc FnFrameByte_g0 FnFrameByte_t0 Tryd.underlying45 hv0 trivial FnFrameByte_g1 FnFrameByte_t1 Tryd.underlying45 hv1 trivial _)
  obtain ⟨a0, len0, cap0, rfl⟩ := okWide_slice Tryd.underlying33 (hval 0 33 v0 rfl rfl)
  have k0 := h0
  have lt0 : ∀ x ∈ p0, x.block < W.heap.size := by obtain ⟨m, hm⟩ := k0; exact DataW.trod_lt m _ _ _ hm
  obtain ⟨z0, w0⟩ : ∃ zs, IsRow .u8 W a0 len0 cap0 zs := by
    obtain ⟨fuel, hf⟩ := h0
    rcases open_ints Tryd.underlying33 Tryd.underlying5 (by kernel_rfl) hf with ⟨hcs, _⟩ | ⟨x, l, c, zs, hcs, _, hl, hm, hz, _, hcell, hwz⟩
    · simp [Value.cells] at hcs
      obtain ⟨rfl, rfl, rfl⟩ := hcs
      exact ⟨[], .inl ⟨rfl, rfl, rfl, rfl⟩⟩
    · simp [Value.cells] at hcs
      obtain ⟨rfl, rfl, rfl⟩ := hcs
      exact ⟨zs, .inr ⟨_, rfl, hl, hm, by simpa using hz, hcell, hwz⟩⟩
  obtain ⟨a1, len1, cap1, rfl⟩ := okWide_slice Tryd.underlying33 (hval 1 33 v1 rfl rfl)
  have k1 := h1
  have lt1 : ∀ x ∈ p1, x.block < W.heap.size := by obtain ⟨m, hm⟩ := k1; exact DataW.trod_lt m _ _ _ hm
  obtain ⟨z1, w1⟩ : ∃ zs, IsRow .u8 W a1 len1 cap1 zs := by
    obtain ⟨fuel, hf⟩ := h1
    rcases open_ints Tryd.underlying33 Tryd.underlying5 (by kernel_rfl) hf with ⟨hcs, _⟩ | ⟨x, l, c, zs, hcs, _, hl, hm, hz, _, hcell, hwz⟩
    · simp [Value.cells] at hcs
      obtain ⟨rfl, rfl, rfl⟩ := hcs
      exact ⟨[], .inl ⟨rfl, rfl, rfl, rfl⟩⟩
    · simp [Value.cells] at hcs
      obtain ⟨rfl, rfl, rfl⟩ := hcs
      exact ⟨zs, .inr ⟨_, rfl, hl, hm, by simpa using hz, hcell, hwz⟩⟩
  clear hA0 hval0 hV0
  refine (FnFrameByte_walk a0 len0 cap0 z0 a1 len1 cap1 z1 W w0 w1 ⟨x1, x0, (by simpa using World.var?_cell FnFrameByte_g1 hv1 0), (by simpa using World.var?_cell FnFrameByte_g0 hv0 0)⟩).mono fun e W' ⟨he, bel⟩ => ?_
  subst he
  exact ⟨_, rfl, _, _, _, [], _, _, hW', trodAll_mk1 (shut_bool Tryd.underlying4 _), (trodAll_cons_mk (Below.trod FnFrameByte_laidOut (by kernel_rfl) (of_decide_eq_true (by kernel_rfl)) k0 bel lt0) (trodAll_cons_mk (Below.trod FnFrameByte_laidOut (by kernel_rfl) (of_decide_eq_true (by kernel_rfl)) k1 bel lt1) trodAll_mk0)), (vars_read2 enc FnFrameByte_g0 FnFrameByte_t0 Tryd.underlying45 (FnFrameByte_var bel hv0) trivial FnFrameByte_g1 FnFrameByte_t1 Tryd.underlying45 (FnFrameByte_var bel hv1) trivial _), bel.frame _, fun h => by cases h⟩
theorem FnFrameByte_holds : Rows.FnFrameByteSaid :=
  OpenClaim.holds_of_wide 6 Tryd.f6 rfl rfl rfl rfl rfl rfl rfl ⟨rfl, rfl, rfl, rfl, rfl⟩ rfl rfl rfl rfl rfl (by kernel_rfl) Tryd.func6 (by kernel_rfl)
    (of_decide_eq_true (by kernel_rfl)) (by unfold Func.isWrapper; first | (rw [if_pos (by decide +kernel)]; kernel_rfl) | (rw [if_neg (by decide +kernel)]; exact ⟨rfl, rfl⟩))
    (fun os started H enc _ => FnFrameByte_lifted os started H enc)
theorem FnFrameByte_card : Rows.FnFrameByteCardSaid :=
  Claim7.holds_tied_plain_at .later [] [.sentinel, .sentinel] true (true, "ff472f51be62a7d9dcdcd6700b3da447531790d306e95748407a7170847a67f9") true
    FnFrameByte_holds (fun _ h => by cases h) (by kernel_rfl) (fun _ h => by cases h) fnFrameByte_row_tie rfl ⟨rfl, rfl⟩ (by kernel_rfl) rfl
    (fun f fn hf hfn => by
      obtain rfl : f = 6 := Option.some.inj ((show Tryd.prog.funcNamed "loop.example/skyway/laws.FnFrameByte" = some 6 by kernel_rfl).symm.trans hf) |>.symm
      obtain rfl : fn = Tryd.f6 := (Option.some.inj (Tryd.func6.symm.trans hfn)).symm
      exact ⟨by kernel_rfl, fun j t ht => by
        rw [Tryd.params6] at ht
        have hm : t ∈ ([33, 33] : List TypeId) := by simpa using Array.mem_of_getElem? ht
        have hall : (([33, 33] : List TypeId).all fun u => !Tryd.prog.wantsStandIn u) = true := by kernel_rfl
        exact (show Tryd.prog.wantsStandIn t = false by simpa using List.all_eq_true.1 hall t hm)⟩)
    (by kernel_rfl)
#print axioms FnFrameByte_card
end Go.Proofs.YtlifigpkjbnkhaaDoor
