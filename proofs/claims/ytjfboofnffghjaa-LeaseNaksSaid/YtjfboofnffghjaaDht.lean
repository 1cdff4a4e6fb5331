/- Messages of DHCP as numbers and bytes; dhcp's Type. -/
import Derived.Test.YtjfboofnffghjaaOp1
import Derived.Test.YtjfboofnffghjaaSla
import Derived.Deep.RegionHeld3
namespace Go.Proofs.Ytjfboofnffghjaa
open Go.RowKit

/-- The numbers and bytes of a message. -/
structure Mh where
  op : Int
  hops : Int
  xid : Int
  secs : Int
  flags : Int
  (c0 c1 c2 c3 y0 y1 y2 y3 s0 s1 s2 s3 r0 r1 r2 r3 m0 m1 m2 m3 m4 m5 : UInt8)
/-- No message. -/
def Mh.zero : Mh := ⟨0, 0, 0, 0, 0, 0, 0, 0, 0, 0, 0, 0, 0, 0, 0, 0, 0, 0, 0, 0, 0, 0, 0, 0, 0, 0, 0⟩
/-- The type that the options tell. -/
def typeL (L : OptL) : Nat := match findL L 53 with
  | some [b] => if b.toNat ≤ 8 then b.toNat else 0
  | _ => 0
theorem type_one {L : OptL} {b : UInt8} (h : (findL L 53).getD [] = [b]) : typeL L = if b.toNat ≤ 8 then b.toNat else 0 := by
  unfold typeL
  cases hf : findL L 53 with
  | none => rw [hf] at h; simp at h
  | some l => rw [hf] at h; simp at h; subst h; rfl
theorem type_not {L : OptL} (h : ¬ ((findL L 53).getD []).length = 1) : typeL L = 0 := by
  unfold typeL
  cases hf : findL L 53 with
  | none => rfl
  | some l =>
    rw [hf] at h
    match l, h with
    | [], _ => rfl
    | [b], h => simp at h
    | _ :: _ :: _, _ => rfl
theorem type_le (L : OptL) : typeL L ≤ 8 := by
  unfold typeL
  split
  · split <;> omega
  · omega
set_option linter.unusedVariables false in
set_option linter.unusedSimpArgs false in
set_option maxRecDepth 100000 in
set_option maxHeartbeats 16000000 in
theorem dtype_any {h : Mh} {A : Option Addr} {n c : Nat} {hs : List Oh} {L : OptL} (w : World) (en : Sle opE 2 w A n c hs) (hbd : Bd w hs L) (hn : n ≤ 100000) (hb : ∀ x ∈ hs, x.n ≤ 100000) : Calls Try.prog 17 #[.agg #[.int .i64 h.op, .int .i64 h.hops, .int .u32 h.xid, .int .i64 h.secs, .int .i64 h.flags, .int .u8 (h.c0.toNat : Int), .int .u8 (h.c1.toNat : Int), .int .u8 (h.c2.toNat : Int), .int .u8 (h.c3.toNat : Int), .int .u8 (h.y0.toNat : Int), .int .u8 (h.y1.toNat : Int), .int .u8 (h.y2.toNat : Int), .int .u8 (h.y3.toNat : Int), .int .u8 (h.s0.toNat : Int), .int .u8 (h.s1.toNat : Int), .int .u8 (h.s2.toNat : Int), .int .u8 (h.s3.toNat : Int), .int .u8 (h.r0.toNat : Int), .int .u8 (h.r1.toNat : Int), .int .u8 (h.r2.toNat : Int), .int .u8 (h.r3.toNat : Int), .int .u8 (h.m0.toNat : Int), .int .u8 (h.m1.toNat : Int), .int .u8 (h.m2.toNat : Int), .int .u8 (h.m3.toNat : Int), .int .u8 (h.m4.toNat : Int), .int .u8 (h.m5.toNat : Int), .slice A n c]] w fun e w' => e = .returned (.int .i64 (typeL L : Int)) ∧ Below w.heap.size w w' := by
  have bel := Below.refl w.heap.size w
  go_enter Try.func17, Try.ntmps17
  go_wp2_with (first | ((with_reducible show wpList _ _ _ (⟨some 1, _, _, _, _, _⟩ :: _) _ _); refine wpList_box_n rfl 37 (.tmp 0) rfl #[.int .i64 h.op, .int .i64 h.hops, .int .u32 h.xid, .int .i64 h.secs, .int .i64 h.flags, .int .u8 (h.c0.toNat : Int), .int .u8 (h.c1.toNat : Int), .int .u8 (h.c2.toNat : Int), .int .u8 (h.c3.toNat : Int), .int .u8 (h.y0.toNat : Int), .int .u8 (h.y1.toNat : Int), .int .u8 (h.y2.toNat : Int), .int .u8 (h.y3.toNat : Int), .int .u8 (h.s0.toNat : Int), .int .u8 (h.s1.toNat : Int), .int .u8 (h.s2.toNat : Int), .int .u8 (h.s3.toNat : Int), .int .u8 (h.r0.toNat : Int), .int .u8 (h.r1.toNat : Int), .int .u8 (h.r2.toNat : Int), .int .u8 (h.r3.toNat : Int), .int .u8 (h.m0.toNat : Int), .int .u8 (h.m1.toNat : Int), .int .u8 (h.m2.toNat : Int), .int .u8 (h.m3.toNat : Int), .int .u8 (h.m4.toNat : Int), .int .u8 (h.m5.toNat : Int), .slice A n c] rfl ?_; intro g1 w1 ge lt hh bb; have av_en_p := en.av_new ge; have op := Nat.le_trans bel.size ge; replace en := en.below bb; replace bel := bel.trans (bb.mono bel.size); have hp := hh; clear hh lt ge bb; have R7 := cell_lit hp 27 _ rfl))
  try clear R7
  with_reducible refine (ofind_any _ en (hbd.below bel) hn hb).mono ?_
  rintro e w2 ⟨A2, n2, c2, rfl, sb, b2⟩
  replace hp := blk_u hp b2
  replace en := en.below b2
  replace bel := bel.trans (b2.mono bel.size)
  clear b2
  replace sb : Sl w2 (A2) (n2) (c2) ((findL L 53).getD []) := sb
  by_cases h1 : n2 = 1
  rotate_left
  · have e4 : ((n2 : Int) != 1) = true := by rw [bne, beq_eq_false_iff_ne.2 (by omega : ¬ (n2 : Int) = 1)]; rfl
    have HP : Hid (typeL L = 0) := Lib.hid (type_not (by rw [sb.1]; exact h1))
    clear h1
    go_wp2_with fail
    go_ret
    exact ⟨by rw [HP.out]; rfl, bel⟩
  obtain ⟨b, hq⟩ : ∃ b, (findL L 53).getD [] = [b] := by
    have h2 := sb.1.trans h1
    match (findL L 53).getD [], h2 with
    | [b], _ => exact ⟨b, rfl⟩
  have HQ := Lib.hid hq
  rw [hq] at sb
  subst h1
  obtain ⟨g2, o2, rfl⟩ := Sl.spot sb (by omega)
  have n01 : (0 : Int) < ((1 : Nat) : Int) := by omega
  have b0 : (0 : Int) ≤ b.toNat := by omega
  have b1 : (b.toNat : Int) < 256 := by have := b.toNat_lt; omega
  clear hq
  by_cases hb8 : b.toNat ≤ 8
  rotate_left
  · have h8 : (8 : Int) < b.toNat := by omega
    have HP : Hid (typeL L = 0) := Lib.hid (by rw [type_one HQ.out, if_neg (by omega)])
    clear hb8
    have R17 := (by have h_ := sl_at sb (j := 0) rfl; rw [Nat.add_zero] at h_; exact h_)
    go_wp2_with fail
    clear R17
    go_ret
    exact ⟨by rw [HP.out]; rfl, bel⟩
  have h8 : decide ((8 : Int) < b.toNat) = false := decide_eq_false (by omega)
  have HP : Hid (typeL L = b.toNat) := Lib.hid (by rw [type_one HQ.out, if_pos hb8])
  clear hb8
  have R17 := (by have h_ := sl_at sb (j := 0) rfl; rw [Nat.add_zero] at h_; exact h_)
  have R22 := (by have h_ := sl_at sb (j := 0) rfl; rw [Nat.add_zero] at h_; exact h_)
  go_wp2_with fail
  clear R17 R22
  go_ret
  exact ⟨by rw [HP.out]; rfl, bel⟩
end Go.Proofs.Ytjfboofnffghjaa
