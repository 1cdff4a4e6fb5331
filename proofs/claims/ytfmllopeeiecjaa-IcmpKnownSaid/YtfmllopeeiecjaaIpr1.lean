/- The reference's Get of packets. -/
import Derived.Test.YtfmllopeeiecjaaBlk
import Derived.Test.YtfmllopeeiecjaaSumc
import Derived.Test.YtfmllopeeiecjaaSlices
import Derived.Test.YtfmllopeeiecjaaEth5
import Derived.Test.YtfmllopeeiecjaaRad
import Derived.Deep.RegionHeld3
namespace Go.Proofs.Ytfmllopeeiecjaa
open Go.RowKit

/-- A packet of zeros. -/
abbrev packz : Value := .agg #[.int .i64 0, .int .i64 0, .int .i64 0, .int .i64 0, .int .i64 0, .int .i64 0, .int .u8 0, .int .u8 0, .int .u8 0, .int .u8 0, .int .u8 0, .int .u8 0, .int .u8 0, .int .u8 0, .slice none 0 0, .slice none 0 0]
/-- The length of the header that the first byte tells. -/
def hlen (x : UInt8) : Nat := x.toNat % 16 * 4
/-- The error of Get (0: none). -/
def ipErr (l : List UInt8) : Int :=
  if l.length < 20 then 3
  else if (l.getD 0 0).toNat / 16 ≠ 4 ∨ hlen (l.getD 0 0) < 20 then 4
  else if l.length < hlen (l.getD 0 0) then 3
  else if ck (l.take (hlen (l.getD 0 0))) ≠ 0 then 5
  else if be ((l.drop 2).take 2) < hlen (l.getD 0 0) then 4
  else if l.length < be ((l.drop 2).take 2) then 3
  else 0
set_option maxRecDepth 100000 in
theorem rget6_short (A : Option Addr) (n c : Nat) (w : World) (h : n < 20) : Calls Try.prog 49 #[.slice A n c] w fun e w' => e = .returned (.tuple #[packz, .int .i64 3]) ∧ Below w.heap.size w w' := by
  have hp := heap_alloc_new w (.cells #[.int .i64 0, .int .i64 0, .int .i64 0, .int .i64 0, .int .i64 0, .int .i64 0, .int .u8 0, .int .u8 0, .int .u8 0, .int .u8 0, .int .u8 0, .int .u8 0, .int .u8 0, .int .u8 0, .slice none 0 0, .slice none 0 0] 45)
  have bel := (Below.refl w.heap.size w).alloc (Nat.le_refl _) (.cells #[.int .i64 0, .int .i64 0, .int .i64 0, .int .i64 0, .int .i64 0, .int .i64 0, .int .u8 0, .int .u8 0, .int .u8 0, .int .u8 0, .int .u8 0, .int .u8 0, .int .u8 0, .int .u8 0, .slice none 0 0, .slice none 0 0] 45)
  have h1 : (n : Int) < 20 := by omega
  clear h
  go_enter Try.func49, Try.ntmps49
  go_wp2_with ((with_reducible show wpList _ _ _ (⟨none, Op.store _ _ _, _, _, _, _⟩ :: _) _ _); refine wpList_store_blk rfl 45 _ _ rfl w.heap.size rfl #[.int .i64 0, .int .i64 0, .int .i64 0, .int .i64 0, .int .i64 0, .int .i64 0, .int .u8 0, .int .u8 0, .int .u8 0, .int .u8 0, .int .u8 0, .int .u8 0, .int .u8 0, .int .u8 0, .slice none 0 0, .slice none 0 0] rfl _ 45 hp (by rfl) (by kernel_rfl) (by kernel_rfl) ?_; intro wz hrz hgz; replace bel := below_grown bel hgz (Nat.le_refl _) bel.size; clear hgz hp)
  go_wp2
  exact bodyPost_ret (results_cell_tmp_row rfl _ _ _ _ _ _ _ rfl hrz Try.underlying45 rfl (by kernel_rfl) _ rfl) rfl ⟨rfl, bel⟩

set_option maxRecDepth 100000 in
set_option maxHeartbeats 4000000 in
theorem rget6_bad4 (A : Option Addr) (n c : Nat) (x : UInt8) (r : List UInt8) (w : World) (hl : Sl w A n c (x :: r)) (hn : 20 ≤ n) (hv : x.toNat / 16 ≠ 4) :
    Calls Try.prog 49 #[.slice A n c] w fun e w' => e = .returned (.tuple #[packz, .int .i64 4]) ∧ Below w.heap.size w w' := by
  have t1 : decide ((n : Int) < 20) = false := decide_eq_false (by omega)
  have n0 : (0 : Int) < n := by omega
  have hp := heap_alloc_new w (.cells #[.int .i64 0, .int .i64 0, .int .i64 0, .int .i64 0, .int .i64 0, .int .i64 0, .int .u8 0, .int .u8 0, .int .u8 0, .int .u8 0, .int .u8 0, .int .u8 0, .int .u8 0, .int .u8 0, .slice none 0 0, .slice none 0 0] 45)
  have bel := (Below.refl w.heap.size w).alloc (Nat.le_refl _) (.cells #[.int .i64 0, .int .i64 0, .int .i64 0, .int .i64 0, .int .i64 0, .int .i64 0, .int .u8 0, .int .u8 0, .int .u8 0, .int .u8 0, .int .u8 0, .int .u8 0, .int .u8 0, .int .u8 0, .slice none 0 0, .slice none 0 0] 45)
  have zp : w.heap.size < (w.alloc (.cells #[.int .i64 0, .int .i64 0, .int .i64 0, .int .i64 0, .int .i64 0, .int .i64 0, .int .u8 0, .int .u8 0, .int .u8 0, .int .u8 0, .int .u8 0, .int .u8 0, .int .u8 0, .int .u8 0, .slice none 0 0, .slice none 0 0] 45)).heap.size := by simp
  have hl1 := hl.below bel
  obtain ⟨d, o, rfl, hc⟩ := hl1.2.2.2 (by omega)
  have k0 := hc 0 x rfl
  unfold u8v at k0
  rw [Nat.add_zero] at k0
  have hx := x.toNat_lt
  have x0 : (0 : Int) ≤ x.toNat := by omega
  have x1 : (x.toNat : Int) < 256 := by omega
  have ew : (x.toNat : Int) % 16 * 4 = (hlen x : Int) := by unfold hlen; omega
  have e1 : ((x.toNat : Int) / 16 == 4) = false := by simp; omega
  have e2 : ((x.toNat : Int) / 16 != 4) = true := by simp; omega
  clear hv hl hl1 hc hn zp hx
  go_enter Try.func49, Try.ntmps49
  go_wp2_with ((with_reducible show wpList _ _ _ (⟨none, Op.store _ _ _, _, _, _, _⟩ :: _) _ _); refine wpList_store_blk rfl 45 _ _ rfl w.heap.size rfl #[.int .i64 0, .int .i64 0, .int .i64 0, .int .i64 0, .int .i64 0, .int .i64 0, .int .u8 0, .int .u8 0, .int .u8 0, .int .u8 0, .int .u8 0, .int .u8 0, .int .u8 0, .int .u8 0, .slice none 0 0, .slice none 0 0] rfl _ 45 hp (by rfl) (by kernel_rfl) (by kernel_rfl) ?_; intro wz hrz hgz; replace bel := below_grown bel hgz (Nat.le_refl _) bel.size; clear hgz hp)
  go_wp2
  exact bodyPost_ret (results_cell_tmp_row rfl _ _ _ _ _ _ _ rfl hrz Try.underlying45 rfl (by kernel_rfl) _ rfl) rfl ⟨rfl, bel⟩

set_option maxRecDepth 100000 in
set_option maxHeartbeats 4000000 in
theorem rget6_bad5 (A : Option Addr) (n c : Nat) (x : UInt8) (r : List UInt8) (w : World) (hl : Sl w A n c (x :: r)) (hn : 20 ≤ n) (g4 : x.toNat / 16 = 4) (hv : hlen x < 20) :
    Calls Try.prog 49 #[.slice A n c] w fun e w' => e = .returned (.tuple #[packz, .int .i64 4]) ∧ Below w.heap.size w w' := by
  have t1 : decide ((n : Int) < 20) = false := decide_eq_false (by omega)
  have n0 : (0 : Int) < n := by omega
  have hp := heap_alloc_new w (.cells #[.int .i64 0, .int .i64 0, .int .i64 0, .int .i64 0, .int .i64 0, .int .i64 0, .int .u8 0, .int .u8 0, .int .u8 0, .int .u8 0, .int .u8 0, .int .u8 0, .int .u8 0, .int .u8 0, .slice none 0 0, .slice none 0 0] 45)
  have bel := (Below.refl w.heap.size w).alloc (Nat.le_refl _) (.cells #[.int .i64 0, .int .i64 0, .int .i64 0, .int .i64 0, .int .i64 0, .int .i64 0, .int .u8 0, .int .u8 0, .int .u8 0, .int .u8 0, .int .u8 0, .int .u8 0, .int .u8 0, .int .u8 0, .slice none 0 0, .slice none 0 0] 45)
  have zp : w.heap.size < (w.alloc (.cells #[.int .i64 0, .int .i64 0, .int .i64 0, .int .i64 0, .int .i64 0, .int .i64 0, .int .u8 0, .int .u8 0, .int .u8 0, .int .u8 0, .int .u8 0, .int .u8 0, .int .u8 0, .int .u8 0, .slice none 0 0, .slice none 0 0] 45)).heap.size := by simp
  have hl1 := hl.below bel
  obtain ⟨d, o, rfl, hc⟩ := hl1.2.2.2 (by omega)
  have k0 := hc 0 x rfl
  unfold u8v at k0
  rw [Nat.add_zero] at k0
  have hx := x.toNat_lt
  have x0 : (0 : Int) ≤ x.toNat := by omega
  have x1 : (x.toNat : Int) < 256 := by omega
  have ew : (x.toNat : Int) % 16 * 4 = (hlen x : Int) := by unfold hlen; omega
  have e4 : (x.toNat : Int) / 16 = 4 := by omega
  obtain ⟨H, HH⟩ : ∃ H, Hid (hlen x = H) := ⟨_, Lib.hid rfl⟩
  rw [HH.out] at ew hv
  have t2 : (H : Int) < 20 := by omega
  clear hv hl hl1 hc hn zp hx g4
  go_enter Try.func49, Try.ntmps49
  go_wp2_with ((with_reducible show wpList _ _ _ (⟨none, Op.store _ _ _, _, _, _, _⟩ :: _) _ _); refine wpList_store_blk rfl 45 _ _ rfl w.heap.size rfl #[.int .i64 0, .int .i64 0, .int .i64 0, .int .i64 0, .int .i64 0, .int .i64 0, .int .u8 0, .int .u8 0, .int .u8 0, .int .u8 0, .int .u8 0, .int .u8 0, .int .u8 0, .int .u8 0, .slice none 0 0, .slice none 0 0] rfl _ 45 hp (by rfl) (by kernel_rfl) (by kernel_rfl) ?_; intro wz hrz hgz; replace bel := below_grown bel hgz (Nat.le_refl _) bel.size; clear hgz hp)
  go_wp2
  exact bodyPost_ret (results_cell_tmp_row rfl _ _ _ _ _ _ _ rfl hrz Try.underlying45 rfl (by kernel_rfl) _ rfl) rfl ⟨rfl, bel⟩

set_option maxRecDepth 100000 in
set_option maxHeartbeats 4000000 in
theorem rget6_short2 (A : Option Addr) (n c : Nat) (x : UInt8) (r : List UInt8) (w : World) (hl : Sl w A n c (x :: r)) (hn : 20 ≤ n) (g4 : x.toNat / 16 = 4) (hv : 20 ≤ hlen x) (hv2 : n < hlen x) :
    Calls Try.prog 49 #[.slice A n c] w fun e w' => e = .returned (.tuple #[packz, .int .i64 3]) ∧ Below w.heap.size w w' := by
  have t1 : decide ((n : Int) < 20) = false := decide_eq_false (by omega)
  have n0 : (0 : Int) < n := by omega
  have hp := heap_alloc_new w (.cells #[.int .i64 0, .int .i64 0, .int .i64 0, .int .i64 0, .int .i64 0, .int .i64 0, .int .u8 0, .int .u8 0, .int .u8 0, .int .u8 0, .int .u8 0, .int .u8 0, .int .u8 0, .int .u8 0, .slice none 0 0, .slice none 0 0] 45)
  have bel := (Below.refl w.heap.size w).alloc (Nat.le_refl _) (.cells #[.int .i64 0, .int .i64 0, .int .i64 0, .int .i64 0, .int .i64 0, .int .i64 0, .int .u8 0, .int .u8 0, .int .u8 0, .int .u8 0, .int .u8 0, .int .u8 0, .int .u8 0, .int .u8 0, .slice none 0 0, .slice none 0 0] 45)
  have zp : w.heap.size < (w.alloc (.cells #[.int .i64 0, .int .i64 0, .int .i64 0, .int .i64 0, .int .i64 0, .int .i64 0, .int .u8 0, .int .u8 0, .int .u8 0, .int .u8 0, .int .u8 0, .int .u8 0, .int .u8 0, .int .u8 0, .slice none 0 0, .slice none 0 0] 45)).heap.size := by simp
  have hl1 := hl.below bel
  obtain ⟨d, o, rfl, hc⟩ := hl1.2.2.2 (by omega)
  have k0 := hc 0 x rfl
  unfold u8v at k0
  rw [Nat.add_zero] at k0
  have hx := x.toNat_lt
  have x0 : (0 : Int) ≤ x.toNat := by omega
  have x1 : (x.toNat : Int) < 256 := by omega
  have ew : (x.toNat : Int) % 16 * 4 = (hlen x : Int) := by unfold hlen; omega
  have e4 : (x.toNat : Int) / 16 = 4 := by omega
  obtain ⟨H, HH⟩ : ∃ H, Hid (hlen x = H) := ⟨_, Lib.hid rfl⟩
  rw [HH.out] at ew hv hv2
  have t2 : decide ((H : Int) < 20) = false := decide_eq_false (by omega)
  have t3 : n < H := by omega
  clear hv hv2 hl hl1 hc hn zp hx g4
  go_enter Try.func49, Try.ntmps49
  go_wp2_with ((with_reducible show wpList _ _ _ (⟨none, Op.store _ _ _, _, _, _, _⟩ :: _) _ _); refine wpList_store_blk rfl 45 _ _ rfl w.heap.size rfl #[.int .i64 0, .int .i64 0, .int .i64 0, .int .i64 0, .int .i64 0, .int .i64 0, .int .u8 0, .int .u8 0, .int .u8 0, .int .u8 0, .int .u8 0, .int .u8 0, .int .u8 0, .int .u8 0, .slice none 0 0, .slice none 0 0] rfl _ 45 hp (by rfl) (by kernel_rfl) (by kernel_rfl) ?_; intro wz hrz hgz; replace bel := below_grown bel hgz (Nat.le_refl _) bel.size; clear hgz hp)
  go_wp2
  exact bodyPost_ret (results_cell_tmp_row rfl _ _ _ _ _ _ _ rfl hrz Try.underlying45 rfl (by kernel_rfl) _ rfl) rfl ⟨rfl, bel⟩

set_option maxRecDepth 100000 in
set_option maxHeartbeats 4000000 in
theorem rget6_sum (A : Option Addr) (n c : Nat) (x : UInt8) (r : List UInt8) (w : World) (hl : Sl w A n c (x :: r)) (hn : 20 ≤ n) (g4 : x.toNat / 16 = 4) (hm : n ≤ 100000) (hv : 20 ≤ hlen x) (hv2 : hlen x ≤ n) (hs : ck ((x :: r).take (hlen x)) ≠ 0) :
    Calls Try.prog 49 #[.slice A n c] w fun e w' => e = .returned (.tuple #[packz, .int .i64 5]) ∧ Below w.heap.size w w' := by
  have t1 : decide ((n : Int) < 20) = false := decide_eq_false (by omega)
  have n0 : (0 : Int) < n := by omega
  have hp := heap_alloc_new w (.cells #[.int .i64 0, .int .i64 0, .int .i64 0, .int .i64 0, .int .i64 0, .int .i64 0, .int .u8 0, .int .u8 0, .int .u8 0, .int .u8 0, .int .u8 0, .int .u8 0, .int .u8 0, .int .u8 0, .slice none 0 0, .slice none 0 0] 45)
  have bel := (Below.refl w.heap.size w).alloc (Nat.le_refl _) (.cells #[.int .i64 0, .int .i64 0, .int .i64 0, .int .i64 0, .int .i64 0, .int .i64 0, .int .u8 0, .int .u8 0, .int .u8 0, .int .u8 0, .int .u8 0, .int .u8 0, .int .u8 0, .int .u8 0, .slice none 0 0, .slice none 0 0] 45)
  have zp : w.heap.size < (w.alloc (.cells #[.int .i64 0, .int .i64 0, .int .i64 0, .int .i64 0, .int .i64 0, .int .i64 0, .int .u8 0, .int .u8 0, .int .u8 0, .int .u8 0, .int .u8 0, .int .u8 0, .int .u8 0, .int .u8 0, .slice none 0 0, .slice none 0 0] 45)).heap.size := by simp
  have hl1 := hl.below bel
  obtain ⟨d, o, rfl, hc⟩ := hl1.2.2.2 (by omega)
  have k0 := hc 0 x rfl
  unfold u8v at k0
  rw [Nat.add_zero] at k0
  have hx := x.toNat_lt
  have x0 : (0 : Int) ≤ x.toNat := by omega
  have x1 : (x.toNat : Int) < 256 := by omega
  have ew : (x.toNat : Int) % 16 * 4 = (hlen x : Int) := by unfold hlen; omega
  have e4 : (x.toNat : Int) / 16 = 4 := by omega
  obtain ⟨H, HH⟩ : ∃ H, Hid (hlen x = H) := ⟨_, Lib.hid rfl⟩
  rw [HH.out] at ew hv hv2 hs
  have hH60 : H ≤ 60 := by have := HH.out; unfold hlen at this; omega
  have t2 : decide ((H : Int) < 20) = false := decide_eq_false (by omega)
  have t3 : decide (n < H) = false := decide_eq_false (by omega)
  have HN := Lib.hid hn; have HV := Lib.hid hv; have HV2 := Lib.hid hv2; have H60 := Lib.hid hH60; have HM := Lib.hid hm
  obtain ⟨AF, cF, sF, hF⟩ := slice_front hl (k := H) (by omega)
  have hFb := hF.below bel
  obtain ⟨cc, hcc⟩ : ∃ cc, Hid (ck ((x :: r).take H) = cc) := ⟨_, Lib.hid rfl⟩
  rw [hcc.out] at hs
  have e5 : (cc == 0) = false := by simpa using hs
  have e6 : (cc != 0) = true := by simpa using hs
  clear hs hv hv2 hl hl1 hc hn hx g4 hH60 hm
  go_enter Try.func49, Try.ntmps49
  go_wp2_with fail
  with_reducible refine (rof_b AF H cF _ _ hFb (by have := H60.out; omega)).mono ?_
  rintro e w1 ⟨rfl, b1⟩
  replace hp := (b1.block _ zp).trans hp
  replace zp := Nat.lt_of_lt_of_le zp b1.size
  replace bel := bel.trans (b1.mono bel.size)
  clear b1 hFb sF hF
  rw [hcc.out]
  go_wp2_with ((with_reducible show wpList _ _ _ (⟨none, Op.store _ _ _, _, _, _, _⟩ :: _) _ _); refine wpList_store_blk rfl 45 _ _ rfl w.heap.size rfl #[.int .i64 0, .int .i64 0, .int .i64 0, .int .i64 0, .int .i64 0, .int .i64 0, .int .u8 0, .int .u8 0, .int .u8 0, .int .u8 0, .int .u8 0, .int .u8 0, .int .u8 0, .int .u8 0, .slice none 0 0, .slice none 0 0] rfl _ 45 hp (by rfl) (by kernel_rfl) (by kernel_rfl) ?_; intro wz hrz hgz; replace bel := below_grown bel hgz (Nat.le_refl _) bel.size; clear hgz hp)
  go_wp2
  exact bodyPost_ret (results_cell_tmp_row rfl _ _ _ _ _ _ _ rfl hrz Try.underlying45 rfl (by kernel_rfl) _ rfl) rfl ⟨rfl, bel⟩

set_option maxRecDepth 100000 in
set_option maxHeartbeats 4000000 in
theorem rget6_bad6 (A : Option Addr) (n c : Nat) (x : UInt8) (r : List UInt8) (w : World) (hl : Sl w A n c (x :: r)) (hn : 20 ≤ n) (g4 : x.toNat / 16 = 4) (hm : n ≤ 100000) (hv : 20 ≤ hlen x) (hv2 : hlen x ≤ n) (hs : ck ((x :: r).take (hlen x)) = 0) (hb : be (((x :: r).drop 2).take 2) < hlen x) :
    Calls Try.prog 49 #[.slice A n c] w fun e w' => e = .returned (.tuple #[packz, .int .i64 4]) ∧ Below w.heap.size w w' := by
  have t1 : decide ((n : Int) < 20) = false := decide_eq_false (by omega)
  have n0 : (0 : Int) < n := by omega
  have hp := heap_alloc_new w (.cells #[.int .i64 0, .int .i64 0, .int .i64 0, .int .i64 0, .int .i64 0, .int .i64 0, .int .u8 0, .int .u8 0, .int .u8 0, .int .u8 0, .int .u8 0, .int .u8 0, .int .u8 0, .int .u8 0, .slice none 0 0, .slice none 0 0] 45)
  have bel := (Below.refl w.heap.size w).alloc (Nat.le_refl _) (.cells #[.int .i64 0, .int .i64 0, .int .i64 0, .int .i64 0, .int .i64 0, .int .i64 0, .int .u8 0, .int .u8 0, .int .u8 0, .int .u8 0, .int .u8 0, .int .u8 0, .int .u8 0, .int .u8 0, .slice none 0 0, .slice none 0 0] 45)
  have zp : w.heap.size < (w.alloc (.cells #[.int .i64 0, .int .i64 0, .int .i64 0, .int .i64 0, .int .i64 0, .int .i64 0, .int .u8 0, .int .u8 0, .int .u8 0, .int .u8 0, .int .u8 0, .int .u8 0, .int .u8 0, .int .u8 0, .slice none 0 0, .slice none 0 0] 45)).heap.size := by simp
  have hl1 := hl.below bel
  obtain ⟨d, o, rfl, hc⟩ := hl1.2.2.2 (by omega)
  have k0 := hc 0 x rfl
  unfold u8v at k0
  rw [Nat.add_zero] at k0
  have hx := x.toNat_lt
  have x0 : (0 : Int) ≤ x.toNat := by omega
  have x1 : (x.toNat : Int) < 256 := by omega
  have ew : (x.toNat : Int) % 16 * 4 = (hlen x : Int) := by unfold hlen; omega
  have e4 : (x.toNat : Int) / 16 = 4 := by omega
  obtain ⟨H, HH⟩ : ∃ H, Hid (hlen x = H) := ⟨_, Lib.hid rfl⟩
  rw [HH.out] at ew hv hv2 hs hb
  have hH60 : H ≤ 60 := by have := HH.out; unfold hlen at this; omega
  have t2 : decide ((H : Int) < 20) = false := decide_eq_false (by omega)
  have t3 : decide (n < H) = false := decide_eq_false (by omega)
  have HN := Lib.hid hn; have HV := Lib.hid hv; have HV2 := Lib.hid hv2; have H60 := Lib.hid hH60; have HM := Lib.hid hm
  obtain ⟨AF, cF, sF, hF⟩ := slice_front hl (k := H) (by omega)
  have hFb := hF.below bel
  obtain ⟨nn, hnn⟩ : ∃ nn, Hid (be (((x :: r).drop 2).take 2) = nn) := ⟨_, Lib.hid rfl⟩
  rw [hnn.out] at hb
  have t5 : nn < H := by omega
  have HS := Lib.hid hs
  clear hs hv hv2 hl1 hc hn hx g4 hH60 hb hm
  go_enter Try.func49, Try.ntmps49
  go_wp2_with fail
  with_reducible refine (rof_b AF H cF _ _ hFb (by have := H60.out; omega)).mono ?_
  rintro e w1 ⟨rfl, b1⟩
  replace hp := (b1.block _ zp).trans hp
  replace zp := Nat.lt_of_lt_of_le zp b1.size
  replace bel := bel.trans (b1.mono bel.size)
  clear b1 hFb sF hF
  rw [HS.out]
  go_wp2_with fail
  with_reducible refine (at16_2 _ n c _ _ (hl.below bel) (by have := HN.out; omega)).mono ?_
  rintro e w2 ⟨rfl, b2⟩
  replace hp := (b2.block _ zp).trans hp
  replace zp := Nat.lt_of_lt_of_le zp b2.size
  replace bel := bel.trans (b2.mono bel.size)
  clear b2
  rw [hnn.out]
  go_wp2_with ((with_reducible show wpList _ _ _ (⟨none, Op.store _ _ _, _, _, _, _⟩ :: _) _ _); refine wpList_store_blk rfl 45 _ _ rfl w.heap.size rfl #[.int .i64 0, .int .i64 0, .int .i64 0, .int .i64 0, .int .i64 0, .int .i64 0, .int .u8 0, .int .u8 0, .int .u8 0, .int .u8 0, .int .u8 0, .int .u8 0, .int .u8 0, .int .u8 0, .slice none 0 0, .slice none 0 0] rfl _ 45 hp (by rfl) (by kernel_rfl) (by kernel_rfl) ?_; intro wz hrz hgz; replace bel := below_grown bel hgz (Nat.le_refl _) bel.size; clear hgz hp)
  go_wp2
  exact bodyPost_ret (results_cell_tmp_row rfl _ _ _ _ _ _ _ rfl hrz Try.underlying45 rfl (by kernel_rfl) _ rfl) rfl ⟨rfl, bel⟩

set_option maxRecDepth 100000 in
set_option maxHeartbeats 4000000 in
theorem rget6_short3 (A : Option Addr) (n c : Nat) (x : UInt8) (r : List UInt8) (w : World) (hl : Sl w A n c (x :: r)) (hn : 20 ≤ n) (g4 : x.toNat / 16 = 4) (hm : n ≤ 100000) (hv : 20 ≤ hlen x) (hv2 : hlen x ≤ n) (hs : ck ((x :: r).take (hlen x)) = 0) (hb : hlen x ≤ be (((x :: r).drop 2).take 2)) (hb2 : n < be (((x :: r).drop 2).take 2)) :
    Calls Try.prog 49 #[.slice A n c] w fun e w' => e = .returned (.tuple #[packz, .int .i64 3]) ∧ Below w.heap.size w w' := by
  have t1 : decide ((n : Int) < 20) = false := decide_eq_false (by omega)
  have n0 : (0 : Int) < n := by omega
  have hp := heap_alloc_new w (.cells #[.int .i64 0, .int .i64 0, .int .i64 0, .int .i64 0, .int .i64 0, .int .i64 0, .int .u8 0, .int .u8 0, .int .u8 0, .int .u8 0, .int .u8 0, .int .u8 0, .int .u8 0, .int .u8 0, .slice none 0 0, .slice none 0 0] 45)
  have bel := (Below.refl w.heap.size w).alloc (Nat.le_refl _) (.cells #[.int .i64 0, .int .i64 0, .int .i64 0, .int .i64 0, .int .i64 0, .int .i64 0, .int .u8 0, .int .u8 0, .int .u8 0, .int .u8 0, .int .u8 0, .int .u8 0, .int .u8 0, .int .u8 0, .slice none 0 0, .slice none 0 0] 45)
  have zp : w.heap.size < (w.alloc (.cells #[.int .i64 0, .int .i64 0, .int .i64 0, .int .i64 0, .int .i64 0, .int .i64 0, .int .u8 0, .int .u8 0, .int .u8 0, .int .u8 0, .int .u8 0, .int .u8 0, .int .u8 0, .int .u8 0, .slice none 0 0, .slice none 0 0] 45)).heap.size := by simp
  have hl1 := hl.below bel
  obtain ⟨d, o, rfl, hc⟩ := hl1.2.2.2 (by omega)
  have k0 := hc 0 x rfl
  unfold u8v at k0
  rw [Nat.add_zero] at k0
  have hx := x.toNat_lt
  have x0 : (0 : Int) ≤ x.toNat := by omega
  have x1 : (x.toNat : Int) < 256 := by omega
  have ew : (x.toNat : Int) % 16 * 4 = (hlen x : Int) := by unfold hlen; omega
  have e4 : (x.toNat : Int) / 16 = 4 := by omega
  obtain ⟨H, HH⟩ : ∃ H, Hid (hlen x = H) := ⟨_, Lib.hid rfl⟩
  rw [HH.out] at ew hv hv2 hs hb
  have hH60 : H ≤ 60 := by have := HH.out; unfold hlen at this; omega
  have t2 : decide ((H : Int) < 20) = false := decide_eq_false (by omega)
  have t3 : decide (n < H) = false := decide_eq_false (by omega)
  have HN := Lib.hid hn; have HV := Lib.hid hv; have HV2 := Lib.hid hv2; have H60 := Lib.hid hH60; have HM := Lib.hid hm
  obtain ⟨AF, cF, sF, hF⟩ := slice_front hl (k := H) (by omega)
  have hFb := hF.below bel
  obtain ⟨nn, hnn⟩ : ∃ nn, Hid (be (((x :: r).drop 2).take 2) = nn) := ⟨_, Lib.hid rfl⟩
  rw [hnn.out] at hb hb2
  have t5 : decide (nn < H) = false := decide_eq_false (by omega)
  have t6 : n < nn := by omega
  have HS := Lib.hid hs
  clear hs hv hv2 hl1 hc hn hx g4 hH60 hb hm hb2
  go_enter Try.func49, Try.ntmps49
  go_wp2_with fail
  with_reducible refine (rof_b AF H cF _ _ hFb (by have := H60.out; omega)).mono ?_
  rintro e w1 ⟨rfl, b1⟩
  replace hp := (b1.block _ zp).trans hp
  replace zp := Nat.lt_of_lt_of_le zp b1.size
  replace bel := bel.trans (b1.mono bel.size)
  clear b1 hFb sF hF
  rw [HS.out]
  go_wp2_with fail
  with_reducible refine (at16_2 _ n c _ _ (hl.below bel) (by have := HN.out; omega)).mono ?_
  rintro e w2 ⟨rfl, b2⟩
  replace hp := (b2.block _ zp).trans hp
  replace zp := Nat.lt_of_lt_of_le zp b2.size
  replace bel := bel.trans (b2.mono bel.size)
  clear b2
  rw [hnn.out]
  go_wp2_with ((with_reducible show wpList _ _ _ (⟨none, Op.store _ _ _, _, _, _, _⟩ :: _) _ _); refine wpList_store_blk rfl 45 _ _ rfl w.heap.size rfl #[.int .i64 0, .int .i64 0, .int .i64 0, .int .i64 0, .int .i64 0, .int .i64 0, .int .u8 0, .int .u8 0, .int .u8 0, .int .u8 0, .int .u8 0, .int .u8 0, .int .u8 0, .int .u8 0, .slice none 0 0, .slice none 0 0] rfl _ 45 hp (by rfl) (by kernel_rfl) (by kernel_rfl) ?_; intro wz hrz hgz; replace bel := below_grown bel hgz (Nat.le_refl _) bel.size; clear hgz hp)
  go_wp2
  exact bodyPost_ret (results_cell_tmp_row rfl _ _ _ _ _ _ _ rfl hrz Try.underlying45 rfl (by kernel_rfl) _ rfl) rfl ⟨rfl, bel⟩

theorem and8191 (n : Nat) (_ : n < 65536) : bits .and .i64 (n : Int) 8191 = ((n % 8192 : Nat) : Int) := by
  show IntKind.i64.wrap ((BitVec.ofInt 64 (n : Int) &&& BitVec.ofInt 64 8191).toNat : Int) = _
  rw [BitVec.toNat_and, BitVec.ofInt_natCast, BitVec.toNat_ofNat, show (BitVec.ofInt 64 8191).toNat = 2 ^ 13 - 1 from rfl, Nat.and_two_pow_sub_one_eq_mod]
  rw [IntKind.wrap_i64]
  omega
set_option maxRecDepth 100000 in
set_option maxHeartbeats 16000000 in
theorem rget6_ok (A : Option Addr) (n c : Nat) (h0 h1 h2 h3 h4 h5 h6 h7 h8 h9 h10 h11 h12 h13 h14 h15 h16 h17 h18 h19 : UInt8) (r : List UInt8) (w : World) (hl : Sl w A n c (h0 :: h1 :: h2 :: h3 :: h4 :: h5 :: h6 :: h7 :: h8 :: h9 :: h10 :: h11 :: h12 :: h13 :: h14 :: h15 :: h16 :: h17 :: h18 :: h19 :: r)) (hn : 20 ≤ n) (g4 : h0.toNat / 16 = 4) (hm : n ≤ 100000) (hv : 20 ≤ hlen h0) (hv2 : hlen h0 ≤ n) (hs : ck ((h0 :: h1 :: h2 :: h3 :: h4 :: h5 :: h6 :: h7 :: h8 :: h9 :: h10 :: h11 :: h12 :: h13 :: h14 :: h15 :: h16 :: h17 :: h18 :: h19 :: r).take (hlen h0)) = 0) (hb : hlen h0 ≤ be [h2, h3]) (hb2 : be [h2, h3] ≤ n) :
    Calls Try.prog 49 #[.slice A n c] w fun e w' => ∃ Ao co Ab cb, e = .returned (.tuple #[.agg #[.int .i64 (h1.toNat : Int), .int .i64 (be [h4, h5] : Nat), .int .i64 ((be [h6, h7] : Nat) / 8192), .int .i64 ((be [h6, h7] : Nat) % 8192), .int .i64 (h8.toNat : Int), .int .i64 (h9.toNat : Int), .int .u8 (h12.toNat : Int), .int .u8 (h13.toNat : Int), .int .u8 (h14.toNat : Int), .int .u8 (h15.toNat : Int), .int .u8 (h16.toNat : Int), .int .u8 (h17.toNat : Int), .int .u8 (h18.toNat : Int), .int .u8 (h19.toNat : Int), .slice Ao (hlen h0 - 20) co, .slice Ab (be [h2, h3] - hlen h0) cb], .int .i64 0]) ∧ Sl w' Ao (hlen h0 - 20) co (r.take (hlen h0 - 20)) ∧ Sl w' Ab (be [h2, h3] - hlen h0) cb (((h0 :: h1 :: h2 :: h3 :: h4 :: h5 :: h6 :: h7 :: h8 :: h9 :: h10 :: h11 :: h12 :: h13 :: h14 :: h15 :: h16 :: h17 :: h18 :: h19 :: r).drop (hlen h0)).take (be [h2, h3] - hlen h0)) ∧ Below w.heap.size w w' := by
  have t1 : decide ((n : Int) < 20) = false := decide_eq_false (by omega)
  have n0 : (0 : Int) < n := by omega
  have hp := heap_alloc_new w (.cells #[.int .i64 0, .int .i64 0, .int .i64 0, .int .i64 0, .int .i64 0, .int .i64 0, .int .u8 0, .int .u8 0, .int .u8 0, .int .u8 0, .int .u8 0, .int .u8 0, .int .u8 0, .int .u8 0, .slice none 0 0, .slice none 0 0] 45)
  have bel := (Below.refl w.heap.size w).alloc (Nat.le_refl _) (.cells #[.int .i64 0, .int .i64 0, .int .i64 0, .int .i64 0, .int .i64 0, .int .i64 0, .int .u8 0, .int .u8 0, .int .u8 0, .int .u8 0, .int .u8 0, .int .u8 0, .int .u8 0, .int .u8 0, .slice none 0 0, .slice none 0 0] 45)
  have zp : w.heap.size < (w.alloc (.cells #[.int .i64 0, .int .i64 0, .int .i64 0, .int .i64 0, .int .i64 0, .int .i64 0, .int .u8 0, .int .u8 0, .int .u8 0, .int .u8 0, .int .u8 0, .int .u8 0, .int .u8 0, .int .u8 0, .slice none 0 0, .slice none 0 0] 45)).heap.size := by simp
  have hl1 := hl.below bel
  obtain ⟨d, o, rfl, hc⟩ := hl1.2.2.2 (by omega)
  have k0 := hc 0 h0 rfl
  unfold u8v at k0
  rw [Nat.add_zero] at k0
  have hx := h0.toNat_lt
  have x0 : (0 : Int) ≤ h0.toNat := by omega
  have x1 : (h0.toNat : Int) < 256 := by omega
  have ew : (h0.toNat : Int) % 16 * 4 = (hlen h0 : Int) := by unfold hlen; omega
  have e4 : (h0.toNat : Int) / 16 = 4 := by omega
  obtain ⟨H, HH⟩ : ∃ H, Hid (hlen h0 = H) := ⟨_, Lib.hid rfl⟩
  rw [HH.out] at ew hv hv2 hs hb ⊢
  have hH60 : H ≤ 60 := by have := HH.out; unfold hlen at this; omega
  have t2 : decide ((H : Int) < 20) = false := decide_eq_false (by omega)
  have t3 : decide (n < H) = false := decide_eq_false (by omega)
  have HN := Lib.hid hn; have HV := Lib.hid hv; have HV2 := Lib.hid hv2; have H60 := Lib.hid hH60; have HM := Lib.hid hm
  obtain ⟨AF, cF, sF, hF⟩ := slice_front hl (k := H) (by omega)
  have hFb := hF.below bel
  obtain ⟨nn, hnn⟩ : ∃ nn, Hid (be [h2, h3] = nn) := ⟨_, Lib.hid rfl⟩
  rw [hnn.out] at hb hb2 ⊢
  obtain ⟨xx, hxx⟩ : ∃ xx, Hid (be [h6, h7] = xx) := ⟨_, Lib.hid rfl⟩
  obtain ⟨id, hid⟩ : ∃ id, Hid (be [h4, h5] = id) := ⟨_, Lib.hid rfl⟩
  rw [hxx.out, hid.out]
  have bx : xx < 65536 := by have := be_lt 2 [h6, h7] rfl; rw [hxx.out] at this; omega
  have ean := and8191 xx bx
  have x2 : (0 : Int) ≤ xx := by omega
  have x3 : (xx : Int) < 65536 := by omega
  have t5 : decide (nn < H) = false := decide_eq_false (by omega)
  have t6 : decide (n < nn) = false := decide_eq_false (by omega)
  obtain ⟨A12, c12, s12, hb12⟩ := slice_back hl (k := 12) (by omega)
  obtain ⟨A16, c16, s16, hb16⟩ := slice_back hl (k := 16) (by omega)
  obtain ⟨Aq, cq, sq, hbq⟩ := slice_mid hl (p := 20) (k := H - 20) (by omega)
  obtain ⟨Ay, cy, sy, hby⟩ := slice_mid hl (p := H) (k := nn - H) (by omega)
  rw [show ((20 : Nat) : Int) + ((H - 20 : Nat) : Int) = (H : Int) by omega] at sq
  rw [show (H : Int) + ((nn - H : Nat) : Int) = (nn : Int) by omega] at sy
  replace s12 : ∀ W, (Instr.slice 25 (.slice (some ⟨d, o, none⟩) n c) (some (.int .i64 12)) none none).run Try.prog W = .ok (.slice A12 (n - 12) c12) W := s12
  replace s16 : ∀ W, (Instr.slice 25 (.slice (some ⟨d, o, none⟩) n c) (some (.int .i64 16)) none none).run Try.prog W = .ok (.slice A16 (n - 16) c16) W := s16
  replace sq : ∀ W, (Instr.slice 25 (.slice (some ⟨d, o, none⟩) n c) (some (.int .i64 20)) (some (.int .i64 (H : Int))) none).run Try.prog W = .ok (.slice Aq (H - 20) cq) W := sq
  have M1 := Lib.hid fun W (h : Below w.heap.size w W) => at16_4 _ n c _ W (hl.below h) (by omega)
  have M2 := Lib.hid fun W (h : Below w.heap.size w W) => raddr_any A12 (n - 12) c12 h12 h13 h14 h15 _ W (hb12.below h) (by omega)
  have M3 := Lib.hid fun W (h : Below w.heap.size w W) => raddr_any A16 (n - 16) c16 h16 h17 h18 h19 _ W (hb16.below h) (by omega)
  have M4 := Lib.hid fun W (h : Below w.heap.size w W) => rcopied_any Aq (H - 20) cq _ W (hbq.below h) (by omega)
  have M5 := Lib.hid fun W (h : Below w.heap.size w W) => rcopied_any Ay (nn - H) cy _ W (hby.below h) (by omega)
  have M6 := Lib.hid fun W (h : Below w.heap.size w W) => at16_6 _ n c _ W (hl.below h) (by omega)
  have M7 := Lib.hid fun W (h : Below w.heap.size w W) => at16_2 _ n c _ W (hl.below h) (by omega)
  generalize n - 12 = n12 at *
  generalize n - 16 = n16 at *
  generalize H - 20 = no at *
  generalize nn - H = nb at *
  have hdw : d < w.heap.size := by
    obtain ⟨d', o', e, hc'⟩ := hl.2.2.2 (by omega)
    injection e with e; injection e with e1 e2
    rw [e1]
    exact cell_lt (hc' 0 _ rfl)
  have zk : d < (w.alloc (.cells #[.int .i64 0, .int .i64 0, .int .i64 0, .int .i64 0, .int .i64 0, .int .i64 0, .int .u8 0, .int .u8 0, .int .u8 0, .int .u8 0, .int .u8 0, .int .u8 0, .int .u8 0, .int .u8 0, .slice none 0 0, .slice none 0 0] 45)).heap.size := cell_lt k0
  have k1 : (w.alloc (.cells #[.int .i64 0, .int .i64 0, .int .i64 0, .int .i64 0, .int .i64 0, .int .i64 0, .int .u8 0, .int .u8 0, .int .u8 0, .int .u8 0, .int .u8 0, .int .u8 0, .int .u8 0, .int .u8 0, .slice none 0 0, .slice none 0 0] 45)).cell? ⟨d, o + 1, none⟩ = some (.int .u8 (h1.toNat : Int)) := hc 1 h1 rfl
  have k8 : (w.alloc (.cells #[.int .i64 0, .int .i64 0, .int .i64 0, .int .i64 0, .int .i64 0, .int .i64 0, .int .u8 0, .int .u8 0, .int .u8 0, .int .u8 0, .int .u8 0, .int .u8 0, .int .u8 0, .int .u8 0, .slice none 0 0, .slice none 0 0] 45)).cell? ⟨d, o + 8, none⟩ = some (.int .u8 (h8.toNat : Int)) := hc 8 h8 rfl
  have k9 : (w.alloc (.cells #[.int .i64 0, .int .i64 0, .int .i64 0, .int .i64 0, .int .i64 0, .int .i64 0, .int .u8 0, .int .u8 0, .int .u8 0, .int .u8 0, .int .u8 0, .int .u8 0, .int .u8 0, .int .u8 0, .slice none 0 0, .slice none 0 0] 45)).cell? ⟨d, o + 9, none⟩ = some (.int .u8 (h9.toNat : Int)) := hc 9 h9 rfl
  have HS := Lib.hid hs
  have n1 : (1 : Int) < n := by omega
  have wr1 : IntKind.i64.wrap (h1.toNat : Int) = h1.toNat := by rw [IntKind.wrap_i64]; have := h1.toNat_lt; omega
  have wr8 : IntKind.i64.wrap (h8.toNat : Int) = h8.toNat := by rw [IntKind.wrap_i64]; have := h8.toNat_lt; omega
  have wr9 : IntKind.i64.wrap (h9.toNat : Int) = h9.toNat := by rw [IntKind.wrap_i64]; have := h9.toNat_lt; omega
  have n8 : (8 : Int) < n := by omega
  have n9 : (9 : Int) < n := by omega
  clear hs hv hv2 hl hl1 hc hn hx g4 hH60 hb hb2 hm hb12 hb16 hbq hby bx
  go_enter Try.func49, Try.ntmps49
  go_wp2_with fail
  with_reducible refine (rof_b AF H cF _ _ hFb (by have := H60.out; omega)).mono ?_
  rintro e w1 ⟨rfl, b1⟩
  replace hp := (b1.block _ zp).trans hp
  replace zp := Nat.lt_of_lt_of_le zp b1.size
  replace bel := bel.trans (b1.mono bel.size)
  replace k1 := (b1.cell (p := ⟨d, o + 1, none⟩) zk).trans k1
  replace k8 := (b1.cell (p := ⟨d, o + 8, none⟩) zk).trans k8
  replace k9 := (b1.cell (p := ⟨d, o + 9, none⟩) zk).trans k9
  replace zk := Nat.lt_of_lt_of_le zk b1.size
  clear k0 b1 hFb sF hF
  rw [HS.out]
  go_wp2_with fail
  with_reducible refine (M7.out _ bel).mono ?_
  rintro e w2 ⟨rfl, b2⟩
  replace hp := (b2.block _ zp).trans hp
  replace zp := Nat.lt_of_lt_of_le zp b2.size
  replace k1 := (b2.cell (p := ⟨d, o + 1, none⟩) zk).trans k1
  replace k8 := (b2.cell (p := ⟨d, o + 8, none⟩) zk).trans k8
  replace k9 := (b2.cell (p := ⟨d, o + 9, none⟩) zk).trans k9
  replace zk := Nat.lt_of_lt_of_le zk b2.size
  replace bel := bel.trans (b2.mono bel.size)
  clear b2
  rw [show be ((List.drop 2 (h0 :: h1 :: h2 :: h3 :: h4 :: h5 :: h6 :: h7 :: h8 :: h9 :: h10 :: h11 :: h12 :: h13 :: h14 :: h15 :: h16 :: h17 :: h18 :: h19 :: r)).take 2) = nn from hnn.out]
  go_wp2_with fail
  with_reducible refine (M6.out _ bel).mono ?_
  rintro e w3 ⟨rfl, b3⟩
  replace hp := (b3.block _ zp).trans hp
  replace zp := Nat.lt_of_lt_of_le zp b3.size
  replace k1 := (b3.cell (p := ⟨d, o + 1, none⟩) zk).trans k1
  replace k8 := (b3.cell (p := ⟨d, o + 8, none⟩) zk).trans k8
  replace k9 := (b3.cell (p := ⟨d, o + 9, none⟩) zk).trans k9
  replace zk := Nat.lt_of_lt_of_le zk b3.size
  replace bel := bel.trans (b3.mono bel.size)
  clear b3
  rw [show be ((List.drop 6 (h0 :: h1 :: h2 :: h3 :: h4 :: h5 :: h6 :: h7 :: h8 :: h9 :: h10 :: h11 :: h12 :: h13 :: h14 :: h15 :: h16 :: h17 :: h18 :: h19 :: r)).take 2) = xx from hxx.out]
  go_wp2_with fail
  have zk1 := zk
  have zk8 := zk
  have zk9 := zk
  clear zk
  replace bel := bel.drew
  replace hp : w3.drew.heap[w.heap.size]? = some (.cells #[.int .i64 0, .int .i64 0, .int .i64 0, .int .i64 0, .int .i64 0, .int .i64 0, .int .u8 0, .int .u8 0, .int .u8 0, .int .u8 0, .int .u8 0, .int .u8 0, .int .u8 0, .int .u8 0, .slice none 0 0, .slice none 0 0] 45 (0, 0)) := hp
  replace zp : w.heap.size < w3.drew.heap.size := zp
  replace k1 : w3.drew.cell? ⟨d, o + 1, none⟩ = some (.int .u8 (h1.toNat : Int)) := k1
  replace zk1 : _ < w3.drew.heap.size := zk1
  replace k8 : w3.drew.cell? ⟨d, o + 8, none⟩ = some (.int .u8 (h8.toNat : Int)) := k8
  replace zk8 : _ < w3.drew.heap.size := zk8
  replace k9 : w3.drew.cell? ⟨d, o + 9, none⟩ = some (.int .u8 (h9.toNat : Int)) := k9
  replace zk9 : _ < w3.drew.heap.size := zk9
  refine wp_region_held_drew (S := fun W => W.cell? ⟨d, o + 1, none⟩ = some (.int .u8 (h1.toNat : Int)) ∧ W.cell? ⟨d, o + 8, none⟩ = some (.int .u8 (h8.toNat : Int)) ∧ W.cell? ⟨d, o + 9, none⟩ = some (.int .u8 (h9.toNat : Int))) (by kernel_rfl) ⟨k1, k8, k9⟩ (fun hH => ?_)
  generalize w3.drew = vd at bel hp zp k1 zk1 k8 zk8 k9 zk9 hH ⊢
  refine wpAnyH_take (i := 0) (v := ?_) rfl (by kernel_rfl) (by kernel_rfl) (by kernel_rfl) (fun _ _ _ h => h) (Or.inl ⟨by rfl, ?_⟩) hH ?_
  rotate_left
  · ((intro W hW; clear hW; go_simp) <;> with_reducible rfl)
  simp only [Act.put, List.getElem_toArray, List.getElem_cons_zero, List.setIfInBounds_toArray, List.set_cons_zero, List.set_cons_succ]
  refine wpAnyH_take (i := 1) (v := ?_) rfl (by kernel_rfl) (by kernel_rfl) (by kernel_rfl) (fun _ _ _ h => h) (Or.inl ⟨by rfl, ?_⟩) hH ?_
  rotate_left
  · ((intro W hW; clear hW; go_simp) <;> with_reducible rfl)
  simp only [Act.put, List.getElem_toArray, List.getElem_cons_zero, List.getElem_cons_succ, List.setIfInBounds_toArray, List.set_cons_zero, List.set_cons_succ]
  refine wpAnyH_take (i := 2) (v := ?_) rfl (by kernel_rfl) (by kernel_rfl) (by kernel_rfl) (fun _ _ _ h => h) (Or.inl ⟨by rfl, ?_⟩) hH ?_
  rotate_left
  · ((intro W hW; have hk0 := hW.1; have hk1 := hW.2.1; have hk2 := hW.2.2; clear hW; go_simp) <;> with_reducible rfl)
  simp only [Act.put, List.getElem_toArray, List.getElem_cons_zero, List.getElem_cons_succ, List.setIfInBounds_toArray, List.set_cons_zero, List.set_cons_succ]
  refine wpAnyH_take (i := 3) (v := ?_) rfl (by kernel_rfl) (by kernel_rfl) (by kernel_rfl) (fun _ _ _ h => h) (Or.inl ⟨by rfl, ?_⟩) hH ?_
  rotate_left
  · ((intro W hW; clear hW; go_simp) <;> with_reducible rfl)
  simp only [Act.put, List.getElem_toArray, List.getElem_cons_zero, List.getElem_cons_succ, List.setIfInBounds_toArray, List.set_cons_zero, List.set_cons_succ]
  refine wpAnyH_take (i := 4) (v := ?_) rfl (by kernel_rfl) (by kernel_rfl) (by kernel_rfl) (fun _ _ _ h => h) (Or.inl ⟨by rfl, ?_⟩) hH ?_
  rotate_left
  · ((intro W hW; clear hW; go_simp) <;> with_reducible rfl)
  simp only [Act.put, List.getElem_toArray, List.getElem_cons_zero, List.getElem_cons_succ, List.setIfInBounds_toArray, List.set_cons_zero, List.set_cons_succ]
  refine wpAnyH_take (i := 6) (v := ?_) rfl (by kernel_rfl) (by kernel_rfl) (by kernel_rfl) (fun _ _ _ h => h) (Or.inl ⟨by rfl, ?_⟩) hH ?_
  rotate_left
  · ((intro W hW; clear hW; go_simp) <;> with_reducible rfl)
  simp only [Act.put, List.getElem_toArray, List.getElem_cons_zero, List.getElem_cons_succ, List.setIfInBounds_toArray, List.set_cons_zero, List.set_cons_succ]
  refine wpAnyH_take (i := 7) (v := ?_) rfl (by kernel_rfl) (by kernel_rfl) (by kernel_rfl) (fun _ _ _ h => h) (Or.inl ⟨by rfl, ?_⟩) hH ?_
  rotate_left
  · ((intro W hW; clear hW; go_simp) <;> with_reducible rfl)
  simp only [Act.put, List.getElem_toArray, List.getElem_cons_zero, List.getElem_cons_succ, List.setIfInBounds_toArray, List.set_cons_zero, List.set_cons_succ]
  refine wpAnyH_take (i := 8) (v := ?_) rfl (by kernel_rfl) (by kernel_rfl) (by kernel_rfl) (fun _ _ _ h => h) (Or.inl ⟨by rfl, ?_⟩) hH ?_
  rotate_left
  · ((intro W hW; clear hW; go_simp) <;> with_reducible rfl)
  simp only [Act.put, List.getElem_toArray, List.getElem_cons_zero, List.getElem_cons_succ, List.setIfInBounds_toArray, List.set_cons_zero, List.set_cons_succ]
  refine wpAnyH_take (i := 9) (v := ?_) rfl (by kernel_rfl) (by kernel_rfl) (by kernel_rfl) (fun _ _ _ h => h) (Or.inl ⟨by rfl, ?_⟩) hH ?_
  rotate_left
  · ((intro W hW; clear hW; go_simp) <;> with_reducible rfl)
  simp only [Act.put, List.getElem_toArray, List.getElem_cons_zero, List.getElem_cons_succ, List.setIfInBounds_toArray, List.set_cons_zero, List.set_cons_succ]
  refine wpAnyH_take (i := 10) (v := ?_) rfl (by kernel_rfl) (by kernel_rfl) (by kernel_rfl) (fun _ _ _ h => h) (Or.inl ⟨by rfl, ?_⟩) hH ?_
  rotate_left
  · ((intro W hW; clear hW; go_simp) <;> with_reducible rfl)
  simp only [Act.put, List.getElem_toArray, List.getElem_cons_zero, List.getElem_cons_succ, List.setIfInBounds_toArray, List.set_cons_zero, List.set_cons_succ]
  refine wpAnyH_take (i := 11) (v := ?_) rfl (by kernel_rfl) (by kernel_rfl) (by kernel_rfl) (fun _ _ _ h => h) (Or.inl ⟨by rfl, ?_⟩) hH ?_
  rotate_left
  · ((intro W hW; clear hW; go_simp) <;> with_reducible rfl)
  simp only [Act.put, List.getElem_toArray, List.getElem_cons_zero, List.getElem_cons_succ, List.setIfInBounds_toArray, List.set_cons_zero, List.set_cons_succ]
  refine wpAnyH_take (i := 12) (v := ?_) rfl (by kernel_rfl) (by kernel_rfl) (by kernel_rfl) (fun _ _ _ h => h) (Or.inl ⟨by rfl, ?_⟩) hH ?_
  rotate_left
  · ((intro W hW; have hk0 := hW.1; have hk1 := hW.2.1; have hk2 := hW.2.2; clear hW; go_simp) <;> with_reducible rfl)
  simp only [Act.put, List.getElem_toArray, List.getElem_cons_zero, List.getElem_cons_succ, List.setIfInBounds_toArray, List.set_cons_zero, List.set_cons_succ]
  refine wpAnyH_take (i := 13) (v := ?_) rfl (by kernel_rfl) (by kernel_rfl) (by kernel_rfl) (fun _ _ _ h => h) (Or.inl ⟨by rfl, ?_⟩) hH ?_
  rotate_left
  · ((intro W hW; clear hW; go_simp) <;> with_reducible rfl)
  simp only [Act.put, List.getElem_toArray, List.getElem_cons_zero, List.getElem_cons_succ, List.setIfInBounds_toArray, List.set_cons_zero, List.set_cons_succ]
  refine wpAnyH_take (i := 14) (v := ?_) rfl (by kernel_rfl) (by kernel_rfl) (by kernel_rfl) (fun _ _ _ h => h) (Or.inl ⟨by rfl, ?_⟩) hH ?_
  rotate_left
  · ((intro W hW; clear hW; go_simp) <;> with_reducible rfl)
  simp only [Act.put, List.getElem_toArray, List.getElem_cons_zero, List.getElem_cons_succ, List.setIfInBounds_toArray, List.set_cons_zero, List.set_cons_succ]
  refine wpAnyH_take (i := 15) (v := ?_) rfl (by kernel_rfl) (by kernel_rfl) (by kernel_rfl) (fun _ _ _ h => h) (Or.inl ⟨by rfl, ?_⟩) hH ?_
  rotate_left
  · ((intro W hW; clear hW; go_simp) <;> with_reducible rfl)
  simp only [Act.put, List.getElem_toArray, List.getElem_cons_zero, List.getElem_cons_succ, List.setIfInBounds_toArray, List.set_cons_zero, List.set_cons_succ]
  refine wpAnyH_take (i := 16) (v := ?_) rfl (by kernel_rfl) (by kernel_rfl) (by kernel_rfl) (fun _ _ _ h => h) (Or.inl ⟨by rfl, ?_⟩) hH ?_
  rotate_left
  · ((intro W hW; have hk0 := hW.1; have hk1 := hW.2.1; have hk2 := hW.2.2; clear hW; go_simp) <;> with_reducible rfl)
  simp only [Act.put, List.getElem_toArray, List.getElem_cons_zero, List.getElem_cons_succ, List.setIfInBounds_toArray, List.set_cons_zero, List.set_cons_succ]
  refine wpAnyH_take (i := 17) (v := ?_) rfl (by kernel_rfl) (by kernel_rfl) (by kernel_rfl) (fun _ _ _ h => h) (Or.inl ⟨by rfl, ?_⟩) hH ?_
  rotate_left
  · ((intro W hW; clear hW; go_simp) <;> with_reducible rfl)
  simp only [Act.put, List.getElem_toArray, List.getElem_cons_zero, List.getElem_cons_succ, List.setIfInBounds_toArray, List.set_cons_zero, List.set_cons_succ]
  refine wpAnyH_take (i := 18) (v := ?_) rfl (by kernel_rfl) (by kernel_rfl) (by kernel_rfl) (fun _ _ _ h => h) (Or.inl ⟨by rfl, ?_⟩) hH ?_
  rotate_left
  · ((intro W hW; clear hW; go_simp) <;> with_reducible rfl)
  simp only [Act.put, List.getElem_toArray, List.getElem_cons_zero, List.getElem_cons_succ, List.setIfInBounds_toArray, List.set_cons_zero, List.set_cons_succ]
  refine wpAnyH_take (i := 19) (v := ?_) rfl (by kernel_rfl) (by kernel_rfl) (by kernel_rfl) (fun _ _ _ h => h) (Or.inl ⟨by rfl, ?_⟩) hH ?_
  rotate_left
  · ((intro W hW; clear hW; go_simp) <;> with_reducible rfl)
  simp only [Act.put, List.getElem_toArray, List.getElem_cons_zero, List.getElem_cons_succ, List.setIfInBounds_toArray, List.set_cons_zero, List.set_cons_succ]
  refine wpAnyH_take (i := 21) (v := ?_) rfl (by kernel_rfl) (by kernel_rfl) (by kernel_rfl) (fun _ _ _ h => h) (Or.inl ⟨by rfl, ?_⟩) hH ?_
  rotate_left
  · ((intro W hW; clear hW; go_simp) <;> with_reducible rfl)
  simp only [Act.put, List.getElem_toArray, List.getElem_cons_zero, List.getElem_cons_succ, List.setIfInBounds_toArray, List.set_cons_zero, List.set_cons_succ]
  refine wpAnyH_take (i := 22) (v := ?_) rfl (by kernel_rfl) (by kernel_rfl) (by kernel_rfl) (fun _ _ _ h => h) (Or.inl ⟨by rfl, ?_⟩) hH ?_
  rotate_left
  · ((intro W hW; clear hW; go_simp) <;> with_reducible rfl)
  simp only [Act.put, List.getElem_toArray, List.getElem_cons_zero, List.getElem_cons_succ, List.setIfInBounds_toArray, List.set_cons_zero, List.set_cons_succ]
  refine wpAnyH_take (i := 24) (v := ?_) rfl (by kernel_rfl) (by kernel_rfl) (by kernel_rfl) (fun _ _ _ h => h) (Or.inl ⟨by rfl, ?_⟩) hH ?_
  rotate_left
  · ((intro W hW; clear hW; go_simp) <;> with_reducible rfl)
  simp only [Act.put, List.getElem_toArray, List.getElem_cons_zero, List.getElem_cons_succ, List.setIfInBounds_toArray, List.set_cons_zero, List.set_cons_succ]
  refine wpAnyH_take (i := 25) (v := ?_) rfl (by kernel_rfl) (by kernel_rfl) (by kernel_rfl) (fun _ _ _ h => h) (Or.inl ⟨by rfl, ?_⟩) hH ?_
  rotate_left
  · ((intro W hW; clear hW; go_simp) <;> with_reducible rfl)
  simp only [Act.put, List.getElem_toArray, List.getElem_cons_zero, List.getElem_cons_succ, List.setIfInBounds_toArray, List.set_cons_zero, List.set_cons_succ]
  refine wpAnyH_take (i := 26) (v := ?_) rfl (by kernel_rfl) (by kernel_rfl) (by kernel_rfl) (fun _ _ _ h => h) (Or.inl ⟨by rfl, ?_⟩) hH ?_
  rotate_left
  · ((intro W hW; clear hW; go_simp) <;> with_reducible rfl)
  simp only [Act.put, List.getElem_toArray, List.getElem_cons_zero, List.getElem_cons_succ, List.setIfInBounds_toArray, List.set_cons_zero, List.set_cons_succ]
  refine wpAnyH_take (i := 28) (v := ?_) rfl (by kernel_rfl) (by kernel_rfl) (by kernel_rfl) (fun _ _ _ h => h) (Or.inl ⟨by rfl, ?_⟩) hH ?_
  rotate_left
  · ((intro W hW; clear hW; go_simp) <;> with_reducible rfl)
  simp only [Act.put, List.getElem_toArray, List.getElem_cons_zero, List.getElem_cons_succ, List.setIfInBounds_toArray, List.set_cons_zero, List.set_cons_succ]
  refine wpAnyH_take (i := 29) (v := ?_) rfl (by kernel_rfl) (by kernel_rfl) (by kernel_rfl) (fun _ _ _ h => h) (Or.inl ⟨by rfl, ?_⟩) hH ?_
  rotate_left
  · ((intro W hW; clear hW; go_simp) <;> with_reducible rfl)
  simp only [Act.put, List.getElem_toArray, List.getElem_cons_zero, List.getElem_cons_succ, List.setIfInBounds_toArray, List.set_cons_zero, List.set_cons_succ]
  refine wpAnyH_take (i := 30) (v := ?_) rfl (by kernel_rfl) (by kernel_rfl) (by kernel_rfl) (fun _ _ _ h => h) (Or.inl ⟨by rfl, ?_⟩) hH ?_
  rotate_left
  · ((intro W hW; clear hW; go_simp) <;> with_reducible rfl)
  simp only [Act.put, List.getElem_toArray, List.getElem_cons_zero, List.getElem_cons_succ, List.setIfInBounds_toArray, List.set_cons_zero, List.set_cons_succ]
  refine wpAnyH_take (i := 31) (v := ?_) rfl (by kernel_rfl) (by kernel_rfl) (by kernel_rfl) (fun _ _ _ h => h) (Or.inl ⟨by rfl, ?_⟩) hH ?_
  rotate_left
  · ((intro W hW; clear hW; go_simp) <;> with_reducible rfl)
  simp only [Act.put, List.getElem_toArray, List.getElem_cons_zero, List.getElem_cons_succ, List.setIfInBounds_toArray, List.set_cons_zero, List.set_cons_succ]
  refine wpAnyH_ready (rs := [5]) (by kernel_rfl) (by simp) ?_
  refine AllReadyH.cons (o := _) rfl (fun K hK => ?_) AllReadyH.nil
  simp only [List.getElem_toArray, List.getElem_cons_zero, List.getElem_cons_succ]
  go_simp
  with_reducible refine (M1.out _ bel).mono ?_
  rintro e v11 ⟨rfl, b11⟩
  dsimp only
  replace bel := bel.trans (b11.mono bel.size)
  replace hp := (b11.block _ zp).trans hp
  replace zp := Nat.lt_of_lt_of_le zp b11.size
  replace k1 := (b11.cell (p := ⟨d, o + 1, none⟩) zk1).trans k1
  replace zk1 := Nat.lt_of_lt_of_le zk1 b11.size
  replace k8 := (b11.cell (p := ⟨d, o + 8, none⟩) zk8).trans k8
  replace zk8 := Nat.lt_of_lt_of_le zk8 b11.size
  replace k9 := (b11.cell (p := ⟨d, o + 9, none⟩) zk9).trans k9
  replace zk9 := Nat.lt_of_lt_of_le zk9 b11.size
  rw [show be ((List.drop 4 (h0 :: h1 :: h2 :: h3 :: h4 :: h5 :: h6 :: h7 :: h8 :: h9 :: h10 :: h11 :: h12 :: h13 :: h14 :: h15 :: h16 :: h17 :: h18 :: h19 :: r)).take 2) = id from hid.out]
  refine hK.out _ _ ⟨k1, k8, k9⟩ (fun hH11 => ?_)
  clear hK K
  refine wpAnyH_ready (rs := [20]) (by kernel_rfl) (by simp) ?_
  refine AllReadyH.cons (o := _) rfl (fun K hK => ?_) AllReadyH.nil
  simp only [List.getElem_toArray, List.getElem_cons_zero, List.getElem_cons_succ]
  go_simp
  with_reducible refine (M2.out _ bel).mono ?_
  rintro e v12 ⟨rfl, b12⟩
  dsimp only
  replace bel := bel.trans (b12.mono bel.size)
  replace hp := (b12.block _ zp).trans hp
  replace zp := Nat.lt_of_lt_of_le zp b12.size
  replace k1 := (b12.cell (p := ⟨d, o + 1, none⟩) zk1).trans k1
  replace zk1 := Nat.lt_of_lt_of_le zk1 b12.size
  replace k8 := (b12.cell (p := ⟨d, o + 8, none⟩) zk8).trans k8
  replace zk8 := Nat.lt_of_lt_of_le zk8 b12.size
  replace k9 := (b12.cell (p := ⟨d, o + 9, none⟩) zk9).trans k9
  replace zk9 := Nat.lt_of_lt_of_le zk9 b12.size
  refine hK.out _ _ ⟨k1, k8, k9⟩ (fun hH12 => ?_)
  clear hK K
  refine wpAnyH_ready (rs := [23]) (by kernel_rfl) (by simp) ?_
  refine AllReadyH.cons (o := _) rfl (fun K hK => ?_) AllReadyH.nil
  simp only [List.getElem_toArray, List.getElem_cons_zero, List.getElem_cons_succ]
  go_simp
  with_reducible refine (M3.out _ bel).mono ?_
  rintro e v13 ⟨rfl, b13⟩
  dsimp only
  replace bel := bel.trans (b13.mono bel.size)
  replace hp := (b13.block _ zp).trans hp
  replace zp := Nat.lt_of_lt_of_le zp b13.size
  replace k1 := (b13.cell (p := ⟨d, o + 1, none⟩) zk1).trans k1
  replace zk1 := Nat.lt_of_lt_of_le zk1 b13.size
  replace k8 := (b13.cell (p := ⟨d, o + 8, none⟩) zk8).trans k8
  replace zk8 := Nat.lt_of_lt_of_le zk8 b13.size
  replace k9 := (b13.cell (p := ⟨d, o + 9, none⟩) zk9).trans k9
  replace zk9 := Nat.lt_of_lt_of_le zk9 b13.size
  refine hK.out _ _ ⟨k1, k8, k9⟩ (fun hH13 => ?_)
  clear hK K
  refine wpAnyH_ready (rs := [27]) (by kernel_rfl) (by simp) ?_
  refine AllReadyH.cons (o := _) rfl (fun K hK => ?_) AllReadyH.nil
  simp only [List.getElem_toArray, List.getElem_cons_zero, List.getElem_cons_succ]
  go_simp
  have z0 := zp
  with_reducible refine (M4.out _ bel).mono ?_
  rintro e v14 ⟨Ao, co, rfl, ho, b14, fo⟩
  dsimp only
  replace bel := bel.trans (b14.mono bel.size)
  replace hp := (b14.block _ zp).trans hp
  replace zp := Nat.lt_of_lt_of_le zp b14.size
  replace k1 := (b14.cell (p := ⟨d, o + 1, none⟩) zk1).trans k1
  replace zk1 := Nat.lt_of_lt_of_le zk1 b14.size
  replace k8 := (b14.cell (p := ⟨d, o + 8, none⟩) zk8).trans k8
  replace zk8 := Nat.lt_of_lt_of_le zk8 b14.size
  replace k9 := (b14.cell (p := ⟨d, o + 9, none⟩) zk9).trans k9
  replace zk9 := Nat.lt_of_lt_of_le zk9 b14.size
  have fo0 := fo.mono (show w.heap.size + 1 ≤ _ from z0)
  refine hK.out _ _ ⟨k1, k8, k9⟩ (fun hH14 => ?_)
  clear hK K
  refine wpAnyH_ready (rs := [32]) (by kernel_rfl) (by simp) ?_
  refine AllReadyH.cons (o := _) rfl (fun K hK => ?_) AllReadyH.nil
  simp only [List.getElem_toArray, List.getElem_cons_zero, List.getElem_cons_succ]
  go_simp
  have z1 := zp
  with_reducible refine (M5.out _ bel).mono ?_
  rintro e v15 ⟨Ab, cb, rfl, hy, b15, fy⟩
  dsimp only
  replace bel := bel.trans (b15.mono bel.size)
  replace hp := (b15.block _ zp).trans hp
  replace zp := Nat.lt_of_lt_of_le zp b15.size
  replace k1 := (b15.cell (p := ⟨d, o + 1, none⟩) zk1).trans k1
  replace zk1 := Nat.lt_of_lt_of_le zk1 b15.size
  replace k8 := (b15.cell (p := ⟨d, o + 8, none⟩) zk8).trans k8
  replace zk8 := Nat.lt_of_lt_of_le zk8 b15.size
  replace k9 := (b15.cell (p := ⟨d, o + 9, none⟩) zk9).trans k9
  replace zk9 := Nat.lt_of_lt_of_le zk9 b15.size
  have fy0 := fy.mono (show w.heap.size + 1 ≤ _ from z1)
  replace ho := ho.below b15
  refine hK.out _ _ ⟨k1, k8, k9⟩ (fun hH15 => ?_)
  clear hK K
  refine wpAnyH_take (i := 33) (v := ?_) rfl (by kernel_rfl) (by kernel_rfl) (by kernel_rfl) (fun _ _ _ h => h) (Or.inl ⟨by rfl, ?_⟩) hH15 ?_
  rotate_left
  · ((intro W hW; clear hW; go_simp) <;> with_reducible rfl)
  simp only [Act.put, List.getElem_toArray, List.getElem_cons_zero, List.getElem_cons_succ, List.setIfInBounds_toArray, List.set_cons_zero, List.set_cons_succ]
  refine wpAnyH_ready (rs := [34]) (by kernel_rfl) (by simp) ?_
  refine AllReadyH.cons (o := _) rfl (fun K hK => ?_) AllReadyH.nil
  simp only [List.getElem_toArray, List.getElem_cons_zero, List.getElem_cons_succ]
  rw [if_pos (by rfl)]
  refine wp_store_blk 45 _ _ rfl (w.heap.size) rfl #[.int .i64 (h1.toNat : Int), .int .i64 (id : Int), .int .i64 ((xx : Int) / 8192), .int .i64 ((xx : Int) % 8192), .int .i64 (h8.toNat : Int), .int .i64 (h9.toNat : Int), .int .u8 (h12.toNat : Int), .int .u8 (h13.toNat : Int), .int .u8 (h14.toNat : Int), .int .u8 (h15.toNat : Int), .int .u8 (h16.toNat : Int), .int .u8 (h17.toNat : Int), .int .u8 (h18.toNat : Int), .int .u8 (h19.toNat : Int), .slice Ao no co, .slice Ab nb cb] rfl _ 45 hp (by rfl) (by kernel_rfl) (by kernel_rfl) ?_
  intro v16 hn16 g16
  replace ho := ho.grown fo0 g16 (by omega)
  replace hy := hy.grown fy0 g16 (by omega)
  clear hp
  replace zp := Nat.lt_of_lt_of_le zp g16.size
  have hp := hn16
  clear hn16
  replace bel := below_grown bel g16 (by omega) bel.size
  replace k1 := (World.cell?_of_block (g16.block (d) zk1 (by intro e; injection e with e; omega))).trans k1
  replace zk1 := Nat.lt_of_lt_of_le zk1 g16.size
  replace k8 := (World.cell?_of_block (g16.block (d) zk8 (by intro e; injection e with e; omega))).trans k8
  replace zk8 := Nat.lt_of_lt_of_le zk8 g16.size
  replace k9 := (World.cell?_of_block (g16.block (d) zk9 (by intro e; injection e with e; omega))).trans k9
  replace zk9 := Nat.lt_of_lt_of_le zk9 g16.size
  refine hK.out _ _ ⟨k1, k8, k9⟩ (fun hH16 => ?_)
  clear hK K g16
  refine wpAnyH_take (i := 35) (v := ?_) rfl (by kernel_rfl) (by kernel_rfl) (by kernel_rfl) (fun _ _ _ h => h) (Or.inl ⟨by rfl, ?_⟩) hH16 ?_
  rotate_left
  · ((intro W hW; clear hW; go_simp) <;> with_reducible rfl)
  simp only [Act.put, List.getElem_toArray, List.getElem_cons_zero, List.getElem_cons_succ, List.setIfInBounds_toArray, List.set_cons_zero, List.set_cons_succ]
  refine wpAnyH_done (by kernel_rfl) ?_ _
  go_wp2
  refine bodyPost_ret (results_cell_tmp_row rfl _ _ _ _ _ _ _ rfl hp Try.underlying45 rfl (by kernel_rfl) _ rfl) rfl ⟨Ao, co, Ab, cb, rfl, ho, hy, bel⟩
end Go.Proofs.Ytfmllopeeiecjaa
