/- dhcp's Type over Int cells. -/
import Derived.Test.YtjfboofnffghjaaLc0
namespace Go.Proofs.Ytjfboofnffghjaa
open Go.RowKit

set_option linter.unusedVariables false in
set_option linter.unusedSimpArgs false in
set_option maxRecDepth 100000 in
set_option maxHeartbeats 16000000 in
theorem dtype_i {z0 z1 z2 z3 z4 z5 z6 z7 z8 z9 z10 z11 z12 z13 z14 z15 z16 z17 z18 z19 z20 z21 z22 z23 z24 z25 z26 : Int} {A : Option Addr} {n c : Nat} {hs : List Oh} {L : OptL} (w : World) (en : Sle opE 2 w A n c hs) (hbd : Bd w hs L) (hn : n ≤ 100000) (hb : ∀ x ∈ hs, x.n ≤ 100000) : Calls Try.prog 17 #[.agg #[.int .i64 z0, .int .i64 z1, .int .u32 z2, .int .i64 z3, .int .i64 z4, .int .u8 z5, .int .u8 z6, .int .u8 z7, .int .u8 z8, .int .u8 z9, .int .u8 z10, .int .u8 z11, .int .u8 z12, .int .u8 z13, .int .u8 z14, .int .u8 z15, .int .u8 z16, .int .u8 z17, .int .u8 z18, .int .u8 z19, .int .u8 z20, .int .u8 z21, .int .u8 z22, .int .u8 z23, .int .u8 z24, .int .u8 z25, .int .u8 z26, .slice A n c]] w fun e w' => e = .returned (.int .i64 (typeL L : Int)) ∧ Below w.heap.size w w' := by
  have bel := Below.refl w.heap.size w
  go_enter Try.func17, Try.ntmps17
  go_wp2_with (first | ((with_reducible show wpList _ _ _ (⟨some 1, _, _, _, _, _⟩ :: _) _ _); refine wpList_box_n rfl 37 (.tmp 0) rfl #[.int .i64 z0, .int .i64 z1, .int .u32 z2, .int .i64 z3, .int .i64 z4, .int .u8 z5, .int .u8 z6, .int .u8 z7, .int .u8 z8, .int .u8 z9, .int .u8 z10, .int .u8 z11, .int .u8 z12, .int .u8 z13, .int .u8 z14, .int .u8 z15, .int .u8 z16, .int .u8 z17, .int .u8 z18, .int .u8 z19, .int .u8 z20, .int .u8 z21, .int .u8 z22, .int .u8 z23, .int .u8 z24, .int .u8 z25, .int .u8 z26, .slice A n c] rfl ?_; intro g1 w1 ge lt hh bb; have av_en_p := en.av_new ge; have op := Nat.le_trans bel.size ge; replace en := en.below bb; replace bel := bel.trans (bb.mono bel.size); have hp := hh; clear hh lt ge bb; have R7 := cell_lit hp 27 _ rfl))
  try clear R7
  with_reducible refine (ofind_any _ en (hbd.below bel) hn hb).mono ?_
  rintro e w2 ⟨A2, n2, c2, rfl, sb, b2⟩
  replace hp := blk_u hp b2
  replace en := en.below b2
  replace bel := bel.trans (b2.mono bel.size)
  clear b2
  replace sb : Sl w2 (A2) (n2) (c2) ((findL L 53).getD []) := sb
  by_cases h1 : n2 = 1
  rotate_left
  · have e4 : ((n2 : Int) != 1) = true := by rw [bne, beq_eq_false_iff_ne.2 (by omega : ¬ (n2 : Int) = 1)]; rfl
    have HP : Hid (typeL L = 0) := Lib.hid (type_not (by rw [sb.1]; exact h1))
    clear h1
    go_wp2_with fail
    go_ret
    exact ⟨by rw [HP.out]; rfl, bel⟩
  obtain ⟨b, hq⟩ : ∃ b, (findL L 53).getD [] = [b] := by
    have h2 := sb.1.trans h1
    match (findL L 53).getD [], h2 with
    | [b], _ => exact ⟨b, rfl⟩
  have HQ := Lib.hid hq
  rw [hq] at sb
  subst h1
  obtain ⟨g2, o2, rfl⟩ := Sl.spot sb (by omega)
  have n01 : (0 : Int) < ((1 : Nat) : Int) := by omega
  have b0 : (0 : Int) ≤ b.toNat := by omega
  have b1 : (b.toNat : Int) < 256 := by have := b.toNat_lt; omega
  clear hq
  by_cases hb8 : b.toNat ≤ 8
  rotate_left
  · have h8 : (8 : Int) < b.toNat := by omega
    have HP : Hid (typeL L = 0) := Lib.hid (by rw [type_one HQ.out, if_neg (by omega)])
    clear hb8
    have R17 := (by have h_ := sl_at sb (j := 0) rfl; rw [Nat.add_zero] at h_; exact h_)
    go_wp2_with fail
    clear R17
    go_ret
    exact ⟨by rw [HP.out]; rfl, bel⟩
  have h8 : decide ((8 : Int) < b.toNat) = false := decide_eq_false (by omega)
  have HP : Hid (typeL L = b.toNat) := Lib.hid (by rw [type_one HQ.out, if_pos hb8])
  clear hb8
  have R17 := (by have h_ := sl_at sb (j := 0) rfl; rw [Nat.add_zero] at h_; exact h_)
  have R22 := (by have h_ := sl_at sb (j := 0) rfl; rw [Nat.add_zero] at h_; exact h_)
  go_wp2_with fail
  clear R17 R22
  go_ret
  exact ⟨by rw [HP.out]; rfl, bel⟩
theorem ltype_a {z0 z1 z2 z3 z4 z5 z6 z7 z8 z9 z10 z11 z12 z13 z14 z15 z16 z17 z18 z19 z20 z21 z22 z23 z24 z25 z26 : Int} {A : Option Addr} {n c : Nat} {hs : List Oh} {L : OptL} {k : Int} (w : World) (hO : Opv w A n c hs L) (hk : (typeL L : Int) = k) : Calls Try.prog 17 #[.agg #[.int .i64 z0, .int .i64 z1, .int .u32 z2, .int .i64 z3, .int .i64 z4, .int .u8 z5, .int .u8 z6, .int .u8 z7, .int .u8 z8, .int .u8 z9, .int .u8 z10, .int .u8 z11, .int .u8 z12, .int .u8 z13, .int .u8 z14, .int .u8 z15, .int .u8 z16, .int .u8 z17, .int .u8 z18, .int .u8 z19, .int .u8 z20, .int .u8 z21, .int .u8 z22, .int .u8 z23, .int .u8 z24, .int .u8 z25, .int .u8 z26, .slice A n c]] w fun e w' => e = .returned (.int .i64 k) ∧ Below w.heap.size w w' := by
  subst hk
  exact dtype_i w hO.1 (obs_bd hO.2.2.2).1 hO.2.2.1 (obs_bd hO.2.2.2).2
end Go.Proofs.Ytjfboofnffghjaa
