/- The reference's copied, Find, Secs, Addr. -/
import Derived.Test.YtmljgpefbbifmaaOp3
import Derived.Test.YtmljgpefbbifmaaWalkw
import Derived.Test.YtmljgpefbbifmaaMemz
import Derived.Test.YtmljgpefbbifmaaSla
namespace Go.Proofs.Ytmljgpefbbifmaa
open Go.RowKit

theorem r12copied_o (A : Option Addr) (n c : Nat) (l : List UInt8) (w : World) (hl : Sl w A n c l) (hs : n ≤ 140737488355328) :
    Calls Try.prog 47 #[.slice A n c] w fun e w' => ∃ v, e = .returned v ∧ w'.ownsRow w.heap.size 5 1 v n (l.map u8v) ∧ Below w.heap.size w w' := by
  obtain ⟨i, hi, hz0, hz1, hz2⟩ := info_parts Try.info5
  have hown := own_empty w
  have bel1 : Below w.heap.size w (w.alloc (.cells #[] 5)) := (Below.refl _ _).alloc (Nat.le_refl _) _
  have hl1 := hl.below bel1
  go_enter Try.func47, Try.ntmps47
  go_wp2_with (at_builtin; refine wpList_append_bytes _ rfl (.tmp 3) (.tmp 4) 34 rfl w.heap.size 5 i (.int .u8 0) Try.underlying34 hi hz0 hz1 hz2 rfl _ 0 [] rfl hown A n c l rfl hl1 ?c1 ?c2 ?_)
  case c1 => omega
  case c2 => exact bel1.size
  intro v2 w2 hown2 hg2 hat2
  obtain ⟨bel2, _, _⟩ := own_grown bel1 bel1.size (fun k h => by simp [Value.ownBlock] at h; omega) hg2 (by simpa using hat2)
  clear hat2 hg2 hown hl1
  go_wp2
  go_ret
  exact ⟨v2, rfl, hown2, bel2⟩
theorem r12copied_any (A : Option Addr) (n c : Nat) (l : List UInt8) (w : World) (hl : Sl w A n c l) (hs : n ≤ 140737488355328) :
    Calls Try.prog 47 #[.slice A n c] w fun e w' => ∃ A' c', e = .returned (.slice A' n c') ∧ Sl w' A' n c' l ∧ Below w.heap.size w w' ∧ Fr w.heap.size A' n := by
  refine (r12copied_o A n c l w hl hs).mono ?_
  rintro e w1 ⟨v, rfl, hown, bel⟩
  obtain ⟨A', c', rfl, hsl, hf⟩ := Sl.of_own_f hown
  exact ⟨A', c', rfl, hsl, bel, hf⟩

theorem Try.info_ropt : (Try.prog.info? 66).map (fun i => (i.zero, i.size, i.bytes)) = some (some (.agg #[.int .i64 0, .slice none 0 0]), 2, 32) := by kernel_rfl
set_option linter.unusedVariables false in
set_option linter.unusedSimpArgs false in
set_option maxRecDepth 100000 in
set_option maxHeartbeats 16000000 in
theorem rfind_any {A : Option Addr} {n c : Nat} {hs : List Oh} {L : OptL} {code : Int} (w : World) (en : Sle opE 2 w A n c hs) (hbd : Bd w hs L) (hn : n ≤ 100000) : Calls Try.prog 32 #[.slice A n c, .int .i64 code] w fun e w' => ∃ A' n' c', e = .returned (.tuple #[.slice A' n' c', .bool (findL L code).isSome]) ∧ Sl w' A' n' c' ((findL L code).getD []) ∧ Below w.heap.size w w' := by
  have HL := Lib.hid en.1
  have hn0 : (n : Int) ≤ 100000 := by omega
  have HBD := Lib.hid hbd
  clear hbd
  have bel := Below.refl w.heap.size w
  go_enter Try.func32, Try.ntmps32
  go_wp2_with fail
  go_loopg [6] (n) (fun gk s6 wr => ∃ k : Nat, gk = n - k ∧ k ≤ n ∧ Hid (findL L code = findL (L.drop k) code) ∧ s6 = .int .i64 (k : Int) ∧ Sle opE 2 wr (A) (n) (c) (hs) ∧ Below w.heap.size w wr)
  case atStart => exact ⟨0, Nat.sub_zero _, Nat.zero_le _, Lib.hid rfl, rfl, en, bel⟩
  case round =>
    clear en bel
    obtain ⟨k, HGK, hkn, HF, rfl, en, bel⟩ := hrel
    have HGK_ := Lib.hid HGK
    clear HGK
    by_cases h : k < n
    rotate_left
    · have HP : Hid (findL L code = none) := Lib.hid (HF.out.trans (find_end (by have h1 := HL.out; have h2 := HBD.out.1; omega)))
      obtain rfl : k = n := by omega
      replace h : decide (k < k) = false := decide_eq_false (by omega)
      go_wp2_with fail
      exact bodyPost_ret (v := .tuple #[.slice none 0 0, .bool false]) (by simp [results, Try.results32, go_sem]) rfl ⟨none, 0, 0, by rw [HP.out]; rfl, by rw [HP.out]; exact Sl.nil _, bel⟩
    obtain ⟨x, hx_⟩ : ∃ x, hs[k]? = some x := ⟨_, List.getElem?_eq_getElem (by have := HL.out; omega)⟩
    obtain ⟨l, hl_, sb_⟩ := HBD.out.at hx_
    have k0 : (0 : Int) ≤ k := by omega
    have k1 : (k : Int) < n := by omega
    have HX := Lib.hid hx_
    have HLI := Lib.hid hl_
    have HSB := Lib.hid sb_
    clear hx_ hl_ sb_
    obtain ⟨gE, oE, hEp⟩ := en.place (by omega)
    subst hEp
    by_cases hc : x.c = code
    rotate_left
    · have e0 : (x.c == code) = false := beq_eq_false_iff_ne.2 hc
      have HF2 : Hid (findL L code = findL (L.drop (k + 1)) code) := Lib.hid (HF.out.trans (find_next (p := (x.c, l)) HLI.out hc))
      clear hc
      have R17 := Sle.cellk0 en HX.out _ rfl
      go_wp2_with fail
      clear R17
      go_roundg (n - (k + 1))
      case measure => have := HGK_.out; omega
      case rel => exact ⟨k + 1, rfl, by omega, HF2, by go_num, en, bel⟩
    have e0 : (x.c == code) = true := beq_iff_eq.2 hc
    have HP : Hid (findL L code = some l) := Lib.hid (HF.out.trans (find_here (p := (x.c, l)) HLI.out hc))
    clear hc
    have R17 := Sle.cellk0 en HX.out _ rfl
    have R24 := Sle.cellk en HX.out 1 _ rfl
    go_wp2_with fail
    clear R17 R24
    exact bodyPost_ret (v := .tuple #[.slice x.A x.n x.cp, .bool true]) (by simp [results, Try.results32, go_sem]) rfl ⟨x.A, x.n, x.cp, by rw [HP.out]; rfl, by rw [HP.out]; exact HSB.out.below bel, bel⟩
theorem belowN12 {B : Nat} {a w : World} (h : Below B a w) (q : Nat) : Below B a (w.drewN q) := ⟨h.os, h.tape, h.output, h.size, h.block⟩
theorem rat32 {A : Option Addr} {n c : Nat} {x y z u : UInt8} (w : World) (hl : Sl w A n c [x, y, z, u]) : Calls Try.prog 25 #[.slice A n c, .int .i64 0] w fun e w' => e = .returned (.int .u32 ((be [x, y, z, u] : Nat) : Int)) ∧ Below w.heap.size w w' := by
  refine (at32_any A n c [x, y, z, u] w hl (by rw [← hl.1]; exact Nat.le_refl _)).mono ?_
  rintro e w' ⟨rfl, q, rfl⟩
  exact ⟨rfl, belowN12 (Below.refl _ _) q⟩
set_option linter.unusedVariables false in
set_option linter.unusedSimpArgs false in
set_option maxRecDepth 100000 in
set_option maxHeartbeats 16000000 in
theorem r12of4 (x y z u : UInt8) (w : World) : Calls Try.prog 48 #[.int .u32 ((be [x, y, z, u] : Nat) : Int)] w fun e w' => e = .returned (.agg #[.int .u8 (x.toNat : Int), .int .u8 (y.toNat : Int), .int .u8 (z.toNat : Int), .int .u8 (u.toNat : Int)]) ∧ Below w.heap.size w w' := by
  obtain ⟨n, hn⟩ : ∃ n, be [x, y, z, u] = n := ⟨_, rfl⟩
  have h0 := x.toNat_lt; have h1 := y.toNat_lt; have h2 := z.toNat_lt; have h3 := u.toNat_lt
  have e : n = ((x.toNat * 256 + y.toNat) * 256 + z.toNat) * 256 + u.toNat := by rw [← hn]; simp [be]
  have q0 : Hid ((n : Int) / 16777216 = (x.toNat : Int)) := Lib.hid (by omega)
  have q1 : Hid ((n : Int) / 65536 % 256 = (y.toNat : Int)) := Lib.hid (by omega)
  have q2 : Hid ((n : Int) / 256 % 256 = (z.toNat : Int)) := Lib.hid (by omega)
  have q3 : Hid ((n : Int) % 256 = (u.toNat : Int)) := Lib.hid (by omega)
  have n0 : (0 : Int) ≤ n := by omega
  have n1 : (n : Int) < 4294967296 := by omega
  rw [hn]
  clear hn e h0 h1 h2 h3
  go_enter Try.func48, Try.ntmps48
  go_wp2
  exact bodyPost_ret (v := .agg #[.int .u8 ((n : Int) / 16777216), .int .u8 ((n : Int) / 65536 % 256), .int .u8 ((n : Int) / 256 % 256), .int .u8 ((n : Int) % 256)]) (by simp [results, Try.results48, go_sem]) rfl ⟨by rw [q0.out, q1.out, q2.out, q3.out], (Below.refl _ _).alloc (Nat.le_refl _) _⟩
end Go.Proofs.Ytmljgpefbbifmaa
