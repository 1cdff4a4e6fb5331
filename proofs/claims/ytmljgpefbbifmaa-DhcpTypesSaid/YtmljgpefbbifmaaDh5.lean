/- The reference's addr, Get. -/
import Derived.Test.YtmljgpefbbifmaaDh1
import Derived.Test.YtmljgpefbbifmaaDhh
import Derived.Test.YtmljgpefbbifmaaWalkw
import Derived.Test.YtmljgpefbbifmaaStr
namespace Go.Proofs.Ytmljgpefbbifmaa
open Go.RowKit

theorem at16_b (A : Option Addr) (n c k : Nat) (l : List UInt8) (w : World) (hl : Sl w A n c l) (hk : k + 2 ≤ n) (hm : k + 2 ≤ 100000) :
    Calls Try.prog 26 #[.slice A n c, .int .i64 k] w fun e w' => e = .returned (.int .i64 (be ((l.drop k).take 2))) ∧ Below w.heap.size w w' := by
  refine (at16_any A n c k l w hl hk hm).mono ?_
  rintro e w1 ⟨rfl, q, rfl⟩
  exact ⟨rfl, belowN12 (Below.refl _ _) q⟩
theorem at32_b (A : Option Addr) (n c k : Nat) (l : List UInt8) (w : World) (hl : Sl w A n c l) (hk : k + 4 ≤ n) (hm : k + 4 ≤ 100000) :
    Calls Try.prog 25 #[.slice A n c, .int .i64 k] w fun e w' => e = .returned (.int .u32 (be ((l.drop k).take 4))) ∧ Below w.heap.size w w' := by
  have hlen := hl.1
  have HB : Hid (be ((l.drop k).take 4) = be ((l.drop k).take 2) * 65536 + be ((l.drop (k + 2)).take 2)) := by
    unfold Hid
    rw [show 4 = 2 + 2 from rfl, List.take_add, be_append, List.drop_drop]
    rw [show ((l.drop (k + 2)).take 2).length = 2 by rw [List.length_take, List.length_drop]; omega]
  have p1 := be_lt 2 ((l.drop k).take 2) (by rw [List.length_take, List.length_drop]; omega)
  have p2 := be_lt 2 ((l.drop (k + 2)).take 2) (by rw [List.length_take, List.length_drop]; omega)
  have c1 := fun W (h : Sl W A n c l) => at16_any A n c k l W h (by omega) (by omega)
  have c2 := fun W (h : Sl W A n c l) => at16_any A n c (k + 2) l W h (by omega) (by omega)
  generalize be ((l.drop k).take 2) = x at *
  generalize be ((l.drop (k + 2)).take 2) = y at *
  have b1 : (0 : Int) ≤ x := by omega
  have b2 : (x : Int) < 65536 := by omega
  have b3 : (0 : Int) ≤ y := by omega
  have b4 : (y : Int) < 65536 := by omega
  have b5 : (0 : Int) ≤ k := by omega
  have b6 : (k : Int) ≤ 100000 := by omega
  have hor := or_u32_16 x y (by omega) (by omega)
  have C1 : Hid _ := c1
  have C2 : Hid _ := c2
  clear c1 c2 hlen
  go_enter Try.func25, Try.ntmps25
  go_wp2_with fail
  refine (C1.out _ hl).mono ?_
  rintro e w1 ⟨rfl, q, rfl⟩
  go_wp2_with fail
  refine (C2.out _ (hl.drewN q)).mono ?_
  rintro e w2 ⟨rfl, q2, rfl⟩
  go_wp2
  exact bodyPost_ret (v := .int .u32 (be ((l.drop k).take 4))) (by simp [results, Try.results25, go_sem, HB.out]) rfl ⟨rfl, belowN12 (Below.refl _ _) (q + q2)⟩
set_option linter.unusedVariables false in
set_option linter.unusedSimpArgs false in
set_option maxRecDepth 100000 in
set_option maxHeartbeats 16000000 in
theorem raddr13 {A : Option Addr} {n c k : Nat} {l : List UInt8} {x y z u : UInt8} (w : World) (hl : Sl w A n c l) (hk : k + 4 ≤ n) (hm : k + 4 ≤ 100000) (hq : (l.drop k).take 4 = [x, y, z, u]) : Calls Try.prog 27 #[.slice A n c, .int .i64 (k : Int)] w fun e w' => e = .returned (.agg #[.int .u8 (x.toNat : Int), .int .u8 (y.toNat : Int), .int .u8 (z.toNat : Int), .int .u8 (u.toNat : Int)]) ∧ Below w.heap.size w w' := by
  have HQ := Lib.hid hq
  clear hq
  have bel := Below.refl w.heap.size w
  go_enter Try.func27, Try.ntmps27
  go_wp2_with (first | ((with_reducible show wpList _ _ _ (⟨some 4, _, _, _, _, _⟩ :: _) _ _); refine wpList_new_a rfl 25 rfl #[.int .u8 0, .int .u8 0, .int .u8 0, .int .u8 0] (by kernel_rfl) ?_; intro g4 w1 ge hh bb; have av_hl_r := hl.av_new ge; have or := Nat.le_trans bel.size ge; replace hl := hl.below bb; replace bel := bel.trans (bb.mono bel.size); have hr := hh; clear hh ge bb))
  with_reducible refine (at32_b _ _ _ k _ _ hl hk hm).mono ?_
  rintro e w2 ⟨rfl, b2⟩
  replace hr := blk_u hr b2
  replace hl := hl.below b2
  replace bel := bel.trans (b2.mono bel.size)
  clear b2
  rw [HQ.out]
  go_wp2_with fail
  with_reducible refine (r12of4 x y z u _).mono ?_
  rintro e w3 ⟨rfl, b3⟩
  replace hr := blk_u hr b3
  replace hl := hl.below b3
  replace bel := bel.trans (b3.mono bel.size)
  clear b3
  go_wp2_with (first | ((with_reducible show wpList _ _ _ (⟨none, Op.store _ (.tmp 4) _, _, _, _, _⟩ :: _) _ _); refine wpList_store_blk rfl 25 (.tmp 4) (.tmp 8) rfl g4 rfl _ rfl _ 25 hr (by rfl) (by kernel_rfl) (by kernel_rfl) ?_; intro w4 hq gr; replace hl := hl.away av_hl_r gr; replace bel := below_grown bel gr or bel.size; clear hr; have hr := hq; clear hq gr))
  exact bodyPost_ret (results_cell_row' rfl _ _ _ _ _ _ _ rfl hr Try.underlying25 rfl (by kernel_rfl)) rfl ⟨rfl, bel⟩
theorem ra_12 {A : Option Addr} {n c : Nat} {l : List UInt8} {x y z u : UInt8} (w : World) (hl : Sl w A n c l) (hk : 240 ≤ n) (hq : (l.drop 12).take 4 = [x, y, z, u]) : Calls Try.prog 27 #[.slice A n c, .int .i64 12] w fun e w' => e = .returned (.agg #[.int .u8 (x.toNat : Int), .int .u8 (y.toNat : Int), .int .u8 (z.toNat : Int), .int .u8 (u.toNat : Int)]) ∧ Below w.heap.size w w' := raddr13 (k := 12) w hl (by omega) (by omega) hq
theorem ra_16 {A : Option Addr} {n c : Nat} {l : List UInt8} {x y z u : UInt8} (w : World) (hl : Sl w A n c l) (hk : 240 ≤ n) (hq : (l.drop 16).take 4 = [x, y, z, u]) : Calls Try.prog 27 #[.slice A n c, .int .i64 16] w fun e w' => e = .returned (.agg #[.int .u8 (x.toNat : Int), .int .u8 (y.toNat : Int), .int .u8 (z.toNat : Int), .int .u8 (u.toNat : Int)]) ∧ Below w.heap.size w w' := raddr13 (k := 16) w hl (by omega) (by omega) hq
theorem ra_20 {A : Option Addr} {n c : Nat} {l : List UInt8} {x y z u : UInt8} (w : World) (hl : Sl w A n c l) (hk : 240 ≤ n) (hq : (l.drop 20).take 4 = [x, y, z, u]) : Calls Try.prog 27 #[.slice A n c, .int .i64 20] w fun e w' => e = .returned (.agg #[.int .u8 (x.toNat : Int), .int .u8 (y.toNat : Int), .int .u8 (z.toNat : Int), .int .u8 (u.toNat : Int)]) ∧ Below w.heap.size w w' := raddr13 (k := 20) w hl (by omega) (by omega) hq
theorem ra_24 {A : Option Addr} {n c : Nat} {l : List UInt8} {x y z u : UInt8} (w : World) (hl : Sl w A n c l) (hk : 240 ≤ n) (hq : (l.drop 24).take 4 = [x, y, z, u]) : Calls Try.prog 27 #[.slice A n c, .int .i64 24] w fun e w' => e = .returned (.agg #[.int .u8 (x.toNat : Int), .int .u8 (y.toNat : Int), .int .u8 (z.toNat : Int), .int .u8 (u.toNat : Int)]) ∧ Below w.heap.size w w' := raddr13 (k := 24) w hl (by omega) (by omega) hq
theorem ra32_4 {A : Option Addr} {n c : Nat} {l : List UInt8} {x y z u : UInt8} (w : World) (hl : Sl w A n c l) (hk : 240 ≤ n) (hq : (l.drop 4).take 4 = [x, y, z, u]) : Calls Try.prog 25 #[.slice A n c, .int .i64 4] w fun e w' => e = .returned (.int .u32 ((be [x, y, z, u] : Nat) : Int)) ∧ Below w.heap.size w w' := by
  rw [← hq]
  exact at32_b A n c 4 l w hl (by omega) (by omega)
theorem ra16_8 {A : Option Addr} {n c : Nat} {l : List UInt8} {x y : UInt8} (w : World) (hl : Sl w A n c l) (hk : 240 ≤ n) (hq : (l.drop 8).take 2 = [x, y]) : Calls Try.prog 26 #[.slice A n c, .int .i64 8] w fun e w' => e = .returned (.int .i64 ((be [x, y] : Nat) : Int)) ∧ Below w.heap.size w w' := by
  rw [← hq]
  exact at16_b A n c 8 l w hl (by omega) (by omega)
theorem ra16_10 {A : Option Addr} {n c : Nat} {l : List UInt8} {x y : UInt8} (w : World) (hl : Sl w A n c l) (hk : 240 ≤ n) (hq : (l.drop 10).take 2 = [x, y]) : Calls Try.prog 26 #[.slice A n c, .int .i64 10] w fun e w' => e = .returned (.int .i64 ((be [x, y] : Nat) : Int)) ∧ Below w.heap.size w w' := by
  rw [← hq]
  exact at16_b A n c 10 l w hl (by omega) (by omega)
theorem mark_at (x0 x1 x2 x3 x4 x5 x6 x7 x8 x9 x10 x11 x12 x13 x14 x15 x16 x17 x18 x19 x20 x21 x22 x23 x24 x25 x26 x27 x28 x29 x30 x31 x32 x33 k0 k1 k2 k3 : UInt8) (u r : List UInt8) (hu : u.length = 202) : (List.drop 236 (x0 :: x1 :: x2 :: x3 :: x4 :: x5 :: x6 :: x7 :: x8 :: x9 :: x10 :: x11 :: x12 :: x13 :: x14 :: x15 :: x16 :: x17 :: x18 :: x19 :: x20 :: x21 :: x22 :: x23 :: x24 :: x25 :: x26 :: x27 :: x28 :: x29 :: x30 :: x31 :: x32 :: x33 :: (u ++ k0 :: k1 :: k2 :: k3 :: r))).take 4 = [k0, k1, k2, k3] := by
  rw [show 236 = 34 + 202 from rfl, drop_34, List.drop_left' hu]
  rfl
theorem mark_or (k0 k1 k2 k3 : UInt8) : (!decide ([k0, k1, k2, k3] = [99, 130, 83, 99])) = (!(k0 == 99) || (!(k1 == 130) || (!(k2 == 83) || !(k3 == 99)))) := by
  by_cases h0 : k0 = 99 <;> by_cases h1 : k1 = 130 <;> by_cases h2 : k2 = 83 <;> by_cases h3 : k3 = 99 <;> simp [h0, h1, h2, h3]
theorem get_some {b : List UInt8} {L : OptL} (h : getL b [] = some L) : (getL b []).isSome = true := by rw [h]; rfl
theorem get_non {b : List UInt8} (h : getL b [] = none) : (getL b []).isSome = false := by rw [h]; rfl
set_option linter.unusedVariables false in
set_option linter.unusedSimpArgs false in
set_option maxRecDepth 100000 in
set_option maxHeartbeats 16000000 in
theorem rget13_long {gb ob n c : Nat} {x0 x1 x2 x3 x4 x5 x6 x7 x8 x9 x10 x11 x12 x13 x14 x15 x16 x17 x18 x19 x20 x21 x22 x23 x24 x25 x26 x27 x28 x29 x30 x31 x32 x33 k0 k1 k2 k3 : UInt8} {u r : List UInt8} (w : World) (bs : Sl w (some ⟨gb, ob, none⟩) n c (x0 :: x1 :: x2 :: x3 :: x4 :: x5 :: x6 :: x7 :: x8 :: x9 :: x10 :: x11 :: x12 :: x13 :: x14 :: x15 :: x16 :: x17 :: x18 :: x19 :: x20 :: x21 :: x22 :: x23 :: x24 :: x25 :: x26 :: x27 :: x28 :: x29 :: x30 :: x31 :: x32 :: x33 :: (u ++ k0 :: k1 :: k2 :: k3 :: r))) (hu : u.length = 202) (hn : n ≤ 100000) (hge : 240 ≤ n) : Calls Try.prog 11 #[.slice (some ⟨gb, ob, none⟩) n c] w fun e w' => ∃ h A' n' c' hs, e = .returned (.tuple #[.agg #[.int .i64 h.op, .int .i64 h.hops, .int .u32 h.xid, .int .i64 h.secs, .int .i64 h.flags, .int .u8 (h.c0.toNat : Int), .int .u8 (h.c1.toNat : Int), .int .u8 (h.c2.toNat : Int), .int .u8 (h.c3.toNat : Int), .int .u8 (h.y0.toNat : Int), .int .u8 (h.y1.toNat : Int), .int .u8 (h.y2.toNat : Int), .int .u8 (h.y3.toNat : Int), .int .u8 (h.s0.toNat : Int), .int .u8 (h.s1.toNat : Int), .int .u8 (h.s2.toNat : Int), .int .u8 (h.s3.toNat : Int), .int .u8 (h.r0.toNat : Int), .int .u8 (h.r1.toNat : Int), .int .u8 (h.r2.toNat : Int), .int .u8 (h.r3.toNat : Int), .int .u8 (h.m0.toNat : Int), .int .u8 (h.m1.toNat : Int), .int .u8 (h.m2.toNat : Int), .int .u8 (h.m3.toNat : Int), .int .u8 (h.m4.toNat : Int), .int .u8 (h.m5.toNat : Int), .slice A' n' c'], .int .i64 (dGet (x0 :: x1 :: x2 :: x3 :: x4 :: x5 :: x6 :: x7 :: x8 :: x9 :: x10 :: x11 :: x12 :: x13 :: x14 :: x15 :: x16 :: x17 :: x18 :: x19 :: x20 :: x21 :: x22 :: x23 :: x24 :: x25 :: x26 :: x27 :: x28 :: x29 :: x30 :: x31 :: x32 :: x33 :: (u ++ k0 :: k1 :: k2 :: k3 :: r))).2]) ∧ h = (dGet (x0 :: x1 :: x2 :: x3 :: x4 :: x5 :: x6 :: x7 :: x8 :: x9 :: x10 :: x11 :: x12 :: x13 :: x14 :: x15 :: x16 :: x17 :: x18 :: x19 :: x20 :: x21 :: x22 :: x23 :: x24 :: x25 :: x26 :: x27 :: x28 :: x29 :: x30 :: x31 :: x32 :: x33 :: (u ++ k0 :: k1 :: k2 :: k3 :: r))).1.1 ∧ (Sle opE 2 w' A' n' c' hs ∧ Bd w' hs (dGet (x0 :: x1 :: x2 :: x3 :: x4 :: x5 :: x6 :: x7 :: x8 :: x9 :: x10 :: x11 :: x12 :: x13 :: x14 :: x15 :: x16 :: x17 :: x18 :: x19 :: x20 :: x21 :: x22 :: x23 :: x24 :: x25 :: x26 :: x27 :: x28 :: x29 :: x30 :: x31 :: x32 :: x33 :: (u ++ k0 :: k1 :: k2 :: k3 :: r))).1.2) ∧ n' ≤ 100000 ∧ (∀ x ∈ hs, x.n ≤ 100000) ∧ Below w.heap.size w w' := by
  have HN0 := Lib.hid hn
  have hn0 : (n : Int) ≤ 100000 := by omega
  have hlen : ¬ (x0 :: x1 :: x2 :: x3 :: x4 :: x5 :: x6 :: x7 :: x8 :: x9 :: x10 :: x11 :: x12 :: x13 :: x14 :: x15 :: x16 :: x17 :: x18 :: x19 :: x20 :: x21 :: x22 :: x23 :: x24 :: x25 :: x26 :: x27 :: x28 :: x29 :: x30 :: x31 :: x32 :: x33 :: (u ++ k0 :: k1 :: k2 :: k3 :: r)).length < 240 := by have := bs.1; omega
  have h240 : decide ((n : Int) < 240) = false := decide_eq_false (by omega)
  have H240 := Lib.hid hge
  have i0 : (0 : Int) < n := by omega
  have i1 : (1 : Int) < n := by omega
  have i2 : (2 : Int) < n := by omega
  have i3 : (3 : Int) < n := by omega
  have i28 : (28 : Int) < n := by omega
  have i29 : (29 : Int) < n := by omega
  have i30 : (30 : Int) < n := by omega
  have i31 : (31 : Int) < n := by omega
  have i32 : (32 : Int) < n := by omega
  have i33 : (33 : Int) < n := by omega
  have jn0 : 0 < n := by omega
  have jn3 : 3 < n := by omega
  have wx0 : IntKind.i64.wrap (x0.toNat : Int) = (x0.toNat : Int) := IntWalk.i64_in _ (by have := x0.toNat_lt; omega)
  have wx3 : IntKind.i64.wrap (x3.toNat : Int) = (x3.toNat : Int) := IntWalk.i64_in _ (by have := x3.toNat_lt; omega)
  have i240 : (240 : Int) ≤ n := by omega
  have i236 : (236 : Int) ≤ n := by omega
  have HQ4 : Hid (List.take 4 (List.drop 4 (x0 :: x1 :: x2 :: x3 :: x4 :: x5 :: x6 :: x7 :: x8 :: x9 :: x10 :: x11 :: x12 :: x13 :: x14 :: x15 :: x16 :: x17 :: x18 :: x19 :: x20 :: x21 :: x22 :: x23 :: x24 :: x25 :: x26 :: x27 :: x28 :: x29 :: x30 :: x31 :: x32 :: x33 :: (u ++ k0 :: k1 :: k2 :: k3 :: r))) = [x4, x5, x6, x7]) := Lib.hid rfl
  have HQ8 : Hid (List.take 2 (List.drop 8 (x0 :: x1 :: x2 :: x3 :: x4 :: x5 :: x6 :: x7 :: x8 :: x9 :: x10 :: x11 :: x12 :: x13 :: x14 :: x15 :: x16 :: x17 :: x18 :: x19 :: x20 :: x21 :: x22 :: x23 :: x24 :: x25 :: x26 :: x27 :: x28 :: x29 :: x30 :: x31 :: x32 :: x33 :: (u ++ k0 :: k1 :: k2 :: k3 :: r))) = [x8, x9]) := Lib.hid rfl
  have HQ10 : Hid (List.take 2 (List.drop 10 (x0 :: x1 :: x2 :: x3 :: x4 :: x5 :: x6 :: x7 :: x8 :: x9 :: x10 :: x11 :: x12 :: x13 :: x14 :: x15 :: x16 :: x17 :: x18 :: x19 :: x20 :: x21 :: x22 :: x23 :: x24 :: x25 :: x26 :: x27 :: x28 :: x29 :: x30 :: x31 :: x32 :: x33 :: (u ++ k0 :: k1 :: k2 :: k3 :: r))) = [x10, x11]) := Lib.hid rfl
  have HQ12 : Hid (List.take 4 (List.drop 12 (x0 :: x1 :: x2 :: x3 :: x4 :: x5 :: x6 :: x7 :: x8 :: x9 :: x10 :: x11 :: x12 :: x13 :: x14 :: x15 :: x16 :: x17 :: x18 :: x19 :: x20 :: x21 :: x22 :: x23 :: x24 :: x25 :: x26 :: x27 :: x28 :: x29 :: x30 :: x31 :: x32 :: x33 :: (u ++ k0 :: k1 :: k2 :: k3 :: r))) = [x12, x13, x14, x15]) := Lib.hid rfl
  have HQ16 : Hid (List.take 4 (List.drop 16 (x0 :: x1 :: x2 :: x3 :: x4 :: x5 :: x6 :: x7 :: x8 :: x9 :: x10 :: x11 :: x12 :: x13 :: x14 :: x15 :: x16 :: x17 :: x18 :: x19 :: x20 :: x21 :: x22 :: x23 :: x24 :: x25 :: x26 :: x27 :: x28 :: x29 :: x30 :: x31 :: x32 :: x33 :: (u ++ k0 :: k1 :: k2 :: k3 :: r))) = [x16, x17, x18, x19]) := Lib.hid rfl
  have HQ20 : Hid (List.take 4 (List.drop 20 (x0 :: x1 :: x2 :: x3 :: x4 :: x5 :: x6 :: x7 :: x8 :: x9 :: x10 :: x11 :: x12 :: x13 :: x14 :: x15 :: x16 :: x17 :: x18 :: x19 :: x20 :: x21 :: x22 :: x23 :: x24 :: x25 :: x26 :: x27 :: x28 :: x29 :: x30 :: x31 :: x32 :: x33 :: (u ++ k0 :: k1 :: k2 :: k3 :: r))) = [x20, x21, x22, x23]) := Lib.hid rfl
  have HQ24 : Hid (List.take 4 (List.drop 24 (x0 :: x1 :: x2 :: x3 :: x4 :: x5 :: x6 :: x7 :: x8 :: x9 :: x10 :: x11 :: x12 :: x13 :: x14 :: x15 :: x16 :: x17 :: x18 :: x19 :: x20 :: x21 :: x22 :: x23 :: x24 :: x25 :: x26 :: x27 :: x28 :: x29 :: x30 :: x31 :: x32 :: x33 :: (u ++ k0 :: k1 :: k2 :: k3 :: r))) = [x24, x25, x26, x27]) := Lib.hid rfl
  have HMK : Hid ((List.drop 236 (x0 :: x1 :: x2 :: x3 :: x4 :: x5 :: x6 :: x7 :: x8 :: x9 :: x10 :: x11 :: x12 :: x13 :: x14 :: x15 :: x16 :: x17 :: x18 :: x19 :: x20 :: x21 :: x22 :: x23 :: x24 :: x25 :: x26 :: x27 :: x28 :: x29 :: x30 :: x31 :: x32 :: x33 :: (u ++ k0 :: k1 :: k2 :: k3 :: r))).take 4 = [k0, k1, k2, k3]) := Lib.hid (mark_at x0 x1 x2 x3 x4 x5 x6 x7 x8 x9 x10 x11 x12 x13 x14 x15 x16 x17 x18 x19 x20 x21 x22 x23 x24 x25 x26 x27 x28 x29 x30 x31 x32 x33 k0 k1 k2 k3 u r hu)
  have HDR : Hid (List.drop 240 (x0 :: x1 :: x2 :: x3 :: x4 :: x5 :: x6 :: x7 :: x8 :: x9 :: x10 :: x11 :: x12 :: x13 :: x14 :: x15 :: x16 :: x17 :: x18 :: x19 :: x20 :: x21 :: x22 :: x23 :: x24 :: x25 :: x26 :: x27 :: x28 :: x29 :: x30 :: x31 :: x32 :: x33 :: (u ++ k0 :: k1 :: k2 :: k3 :: r)) = r) := Lib.hid (rest_at x0 x1 x2 x3 x4 x5 x6 x7 x8 x9 x10 x11 x12 x13 x14 x15 x16 x17 x18 x19 x20 x21 x22 x23 x24 x25 x26 x27 x28 x29 x30 x31 x32 x33 k0 k1 k2 k3 u r hu)
  have HL : Hid (hdL (x0 :: x1 :: x2 :: x3 :: x4 :: x5 :: x6 :: x7 :: x8 :: x9 :: x10 :: x11 :: x12 :: x13 :: x14 :: x15 :: x16 :: x17 :: x18 :: x19 :: x20 :: x21 :: x22 :: x23 :: x24 :: x25 :: x26 :: x27 :: x28 :: x29 :: x30 :: x31 :: x32 :: x33 :: (u ++ k0 :: k1 :: k2 :: k3 :: r)) = ⟨(x0.toNat : Int), (x3.toNat : Int), ((be [x4, x5, x6, x7] : Nat) : Int), ((be [x8, x9] : Nat) : Int), ((be [x10, x11] : Nat) : Int), x12, x13, x14, x15, x16, x17, x18, x19, x20, x21, x22, x23, x24, x25, x26, x27, x28, x29, x30, x31, x32, x33⟩) := Lib.hid (hd_at x0 x1 x2 x3 x4 x5 x6 x7 x8 x9 x10 x11 x12 x13 x14 x15 x16 x17 x18 x19 x20 x21 x22 x23 x24 x25 x26 x27 x28 x29 x30 x31 x32 x33 _)
  have HOKE : Hid (okH (x0 :: x1 :: x2 :: x3 :: x4 :: x5 :: x6 :: x7 :: x8 :: x9 :: x10 :: x11 :: x12 :: x13 :: x14 :: x15 :: x16 :: x17 :: x18 :: x19 :: x20 :: x21 :: x22 :: x23 :: x24 :: x25 :: x26 :: x27 :: x28 :: x29 :: x30 :: x31 :: x32 :: x33 :: (u ++ k0 :: k1 :: k2 :: k3 :: r)) = (isOp (x0.toNat : Int) && ((x1.toNat : Int) == 1) && ((x2.toNat : Int) == 6) && decide ([k0, k1, k2, k3] = [99, 130, 83, 99]))) := Lib.hid (by rw [mark_eq]; exact ok_at x0 x1 x2 x3 x4 x5 x6 x7 x8 x9 x10 x11 x12 x13 x14 x15 x16 x17 x18 x19 x20 x21 x22 x23 x24 x25 x26 x27 x28 x29 x30 x31 x32 x33 k0 k1 k2 k3 u r hu)
  obtain ⟨nb, hnb⟩ : ∃ b, (!okH (x0 :: x1 :: x2 :: x3 :: x4 :: x5 :: x6 :: x7 :: x8 :: x9 :: x10 :: x11 :: x12 :: x13 :: x14 :: x15 :: x16 :: x17 :: x18 :: x19 :: x20 :: x21 :: x22 :: x23 :: x24 :: x25 :: x26 :: x27 :: x28 :: x29 :: x30 :: x31 :: x32 :: x33 :: (u ++ k0 :: k1 :: k2 :: k3 :: r))) = b := ⟨_, rfl⟩
  have HNB := Lib.hid hnb
  obtain ⟨nr, hnr⟩ : ∃ k, n - 240 = k := ⟨_, rfl⟩
  have HNR := Lib.hid hnr
  clear hu hnb hnr hn
  obtain ⟨ii, hii, hz0, hz1, hz2⟩ := info_parts Try.info_u8
  have bel := Below.refl w.heap.size w
  go_enter Try.func11, Try.ntmps11
  go_upto_region 3 with (first | ((with_reducible show wpList _ _ _ (⟨some 2, _, _, _, _, _⟩ :: _) _ _); refine wpList_new_a rfl 42 rfl #[.int .i64 0, .int .i64 0, .int .u32 0, .int .i64 0, .int .i64 0, .int .u8 0, .int .u8 0, .int .u8 0, .int .u8 0, .int .u8 0, .int .u8 0, .int .u8 0, .int .u8 0, .int .u8 0, .int .u8 0, .int .u8 0, .int .u8 0, .int .u8 0, .int .u8 0, .int .u8 0, .int .u8 0, .int .u8 0, .int .u8 0, .int .u8 0, .int .u8 0, .int .u8 0, .int .u8 0, .slice none 0 0] (by kernel_rfl) ?_; intro g2 w1 ge hh bb; have av_bs_z := bs.av_new ge; have oz := Nat.le_trans bel.size ge; replace bs := bs.below bb; replace bel := bel.trans (bb.mono bel.size); have hz := hh; clear hh ge bb))
  go_cut [39] from 9999 (fun s39 W => s39 = .bool nb ∧ W.heap[g2]? = some (.cells #[.int .i64 0, .int .i64 0, .int .u32 0, .int .i64 0, .int .i64 0, .int .u8 0, .int .u8 0, .int .u8 0, .int .u8 0, .int .u8 0, .int .u8 0, .int .u8 0, .int .u8 0, .int .u8 0, .int .u8 0, .int .u8 0, .int .u8 0, .int .u8 0, .int .u8 0, .int .u8 0, .int .u8 0, .int .u8 0, .int .u8 0, .int .u8 0, .int .u8 0, .int .u8 0, .int .u8 0, .slice none 0 0] 42 (0, 0)) ∧ Sl W (some ⟨gb, ob, none⟩) (n) (c) (x0 :: x1 :: x2 :: x3 :: x4 :: x5 :: x6 :: x7 :: x8 :: x9 :: x10 :: x11 :: x12 :: x13 :: x14 :: x15 :: x16 :: x17 :: x18 :: x19 :: x20 :: x21 :: x22 :: x23 :: x24 :: x25 :: x26 :: x27 :: x28 :: x29 :: x30 :: x31 :: x32 :: x33 :: (u ++ k0 :: k1 :: k2 :: k3 :: r)) ∧ Below w.heap.size w W)
  case first =>
    by_cases a1 : x0 = 1
    · have e01 : ((x0.toNat : Int) == 1) = true := by rw [a1]; rfl
      have e01n : ((x0.toNat : Int) != 1) = false := by rw [bne, e01]; rfl
      have hio : isOp (x0.toNat : Int) = true := by rw [a1]; rfl
      clear a1
      by_cases h1 : x1 = 1
      rotate_left
      · have e1 : ((x1.toNat : Int) == 1) = false := beq_eq_false_iff_ne.2 (fun h_ => h1 (UInt8.toNat_inj.1 (by show x1.toNat = 1; omega)))
        have e1n : ((x1.toNat : Int) != 1) = true := by rw [bne, e1]; rfl
        have HB : Hid (okH (x0 :: x1 :: x2 :: x3 :: x4 :: x5 :: x6 :: x7 :: x8 :: x9 :: x10 :: x11 :: x12 :: x13 :: x14 :: x15 :: x16 :: x17 :: x18 :: x19 :: x20 :: x21 :: x22 :: x23 :: x24 :: x25 :: x26 :: x27 :: x28 :: x29 :: x30 :: x31 :: x32 :: x33 :: (u ++ k0 :: k1 :: k2 :: k3 :: r)) = false) := Lib.hid (by rw [HOKE.out, e1]; simp)
        clear h1 hio
        have R14 := (by have h_ := sl_at bs (j := 0) rfl; rw [Nat.add_zero] at h_; exact h_)
        have R25 := sl_at bs (j := 1) rfl
        go_wp2_with fail
        clear R14 R25
        go_meet
        case rel => exact ⟨by rw [← HNB.out, HB.out]; rfl, hz, bs, bel⟩
      have e1 : ((x1.toNat : Int) == 1) = true := by rw [h1]; rfl
      have e1n : ((x1.toNat : Int) != 1) = false := by rw [bne, e1]; rfl
      by_cases h2 : x2 = 6
      rotate_left
      · have e2 : ((x2.toNat : Int) == 6) = false := beq_eq_false_iff_ne.2 (fun h_ => h2 (UInt8.toNat_inj.1 (by show x2.toNat = 6; omega)))
        have e2n : ((x2.toNat : Int) != 6) = true := by rw [bne, e2]; rfl
        have HB : Hid (okH (x0 :: x1 :: x2 :: x3 :: x4 :: x5 :: x6 :: x7 :: x8 :: x9 :: x10 :: x11 :: x12 :: x13 :: x14 :: x15 :: x16 :: x17 :: x18 :: x19 :: x20 :: x21 :: x22 :: x23 :: x24 :: x25 :: x26 :: x27 :: x28 :: x29 :: x30 :: x31 :: x32 :: x33 :: (u ++ k0 :: k1 :: k2 :: k3 :: r)) = false) := Lib.hid (by rw [HOKE.out, e2]; simp)
        clear h1 h2 hio
        have R14 := (by have h_ := sl_at bs (j := 0) rfl; rw [Nat.add_zero] at h_; exact h_)
        have R25 := sl_at bs (j := 1) rfl
        have R31 := sl_at bs (j := 2) rfl
        go_wp2_with fail
        clear R14 R25 R31
        go_meet
        case rel => exact ⟨by rw [← HNB.out, HB.out]; rfl, hz, bs, bel⟩
      have e2 : ((x2.toNat : Int) == 6) = true := by rw [h2]; rfl
      have e2n : ((x2.toNat : Int) != 6) = false := by rw [bne, e2]; rfl
      have HB : Hid (okH (x0 :: x1 :: x2 :: x3 :: x4 :: x5 :: x6 :: x7 :: x8 :: x9 :: x10 :: x11 :: x12 :: x13 :: x14 :: x15 :: x16 :: x17 :: x18 :: x19 :: x20 :: x21 :: x22 :: x23 :: x24 :: x25 :: x26 :: x27 :: x28 :: x29 :: x30 :: x31 :: x32 :: x33 :: (u ++ k0 :: k1 :: k2 :: k3 :: r)) = decide ([k0, k1, k2, k3] = [99, 130, 83, 99])) := Lib.hid (by rw [HOKE.out, hio, e1, e2]; rfl)
      clear h1 h2 hio
      have R14 := (by have h_ := sl_at bs (j := 0) rfl; rw [Nat.add_zero] at h_; exact h_)
      have R25 := sl_at bs (j := 1) rfl
      have R31 := sl_at bs (j := 2) rfl
      obtain ⟨Amk, cmk, r36, f36, u36⟩ := piece_mid bs (p := 236) (k := 4) (by omega)
      replace r36 : ∀ W, (Instr.slice 34 (.slice (some ⟨gb, ob, none⟩) n c) (some (.int .i64 236)) (some (.int .i64 240)) none).run Try.prog W = .ok (.slice Amk 4 cmk) W := r36
      have mk : Sl w1 Amk 4 cmk ([k0, k1, k2, k3]) := (by (rw [← HMK.out]; exact f36 _ bs))
      have av_mk_z := av_bs_z.sub u36
      clear f36 u36
      have st37 := mk.str (P := Try.prog) 34 5 9 Try.underlying34 Try.underlying5 Try.underlying9
      go_wp2_with fail
      clear R14 R25 R31 st37
      go_meet
      case rel => exact ⟨by rw [← HNB.out, HB.out, mark_or], hz, bs, bel⟩
    have e01 : ((x0.toNat : Int) == 1) = false := beq_eq_false_iff_ne.2 (fun h_ => a1 (UInt8.toNat_inj.1 (by show x0.toNat = 1; omega)))
    have e01n : ((x0.toNat : Int) != 1) = true := by rw [bne, e01]; rfl
    by_cases a2 : x0 = 2
    rotate_left
    · have e02 : ((x0.toNat : Int) == 2) = false := beq_eq_false_iff_ne.2 (fun h_ => a2 (UInt8.toNat_inj.1 (by show x0.toNat = 2; omega)))
      have e02n : ((x0.toNat : Int) != 2) = true := by rw [bne, e02]; rfl
      have hio : isOp (x0.toNat : Int) = false := by unfold isOp; rw [decide_eq_false (by simpa using e01), decide_eq_false (by simpa using e02)]; rfl
      have HB : Hid (okH (x0 :: x1 :: x2 :: x3 :: x4 :: x5 :: x6 :: x7 :: x8 :: x9 :: x10 :: x11 :: x12 :: x13 :: x14 :: x15 :: x16 :: x17 :: x18 :: x19 :: x20 :: x21 :: x22 :: x23 :: x24 :: x25 :: x26 :: x27 :: x28 :: x29 :: x30 :: x31 :: x32 :: x33 :: (u ++ k0 :: k1 :: k2 :: k3 :: r)) = false) := Lib.hid (by rw [HOKE.out, hio]; simp)
      clear a1 a2 hio
      have R14 := (by have h_ := sl_at bs (j := 0) rfl; rw [Nat.add_zero] at h_; exact h_)
      have R19 := (by have h_ := sl_at bs (j := 0) rfl; rw [Nat.add_zero] at h_; exact h_)
      go_wp2_with fail
      clear R14 R19
      go_meet
      case rel => exact ⟨by rw [← HNB.out, HB.out]; rfl, hz, bs, bel⟩
    have e02 : ((x0.toNat : Int) == 2) = true := by rw [a2]; rfl
    have e02n : ((x0.toNat : Int) != 2) = false := by rw [bne, e02]; rfl
    have hio : isOp (x0.toNat : Int) = true := by rw [a2]; rfl
    clear a1 a2
    by_cases h1 : x1 = 1
    rotate_left
    · have e1 : ((x1.toNat : Int) == 1) = false := beq_eq_false_iff_ne.2 (fun h_ => h1 (UInt8.toNat_inj.1 (by show x1.toNat = 1; omega)))
      have e1n : ((x1.toNat : Int) != 1) = true := by rw [bne, e1]; rfl
      have HB : Hid (okH (x0 :: x1 :: x2 :: x3 :: x4 :: x5 :: x6 :: x7 :: x8 :: x9 :: x10 :: x11 :: x12 :: x13 :: x14 :: x15 :: x16 :: x17 :: x18 :: x19 :: x20 :: x21 :: x22 :: x23 :: x24 :: x25 :: x26 :: x27 :: x28 :: x29 :: x30 :: x31 :: x32 :: x33 :: (u ++ k0 :: k1 :: k2 :: k3 :: r)) = false) := Lib.hid (by rw [HOKE.out, e1]; simp)
      clear h1 hio
      have R14 := (by have h_ := sl_at bs (j := 0) rfl; rw [Nat.add_zero] at h_; exact h_)
      have R19 := (by have h_ := sl_at bs (j := 0) rfl; rw [Nat.add_zero] at h_; exact h_)
      have R25 := sl_at bs (j := 1) rfl
      go_wp2_with fail
      clear R14 R19 R25
      go_meet
      case rel => exact ⟨by rw [← HNB.out, HB.out]; rfl, hz, bs, bel⟩
    have e1 : ((x1.toNat : Int) == 1) = true := by rw [h1]; rfl
    have e1n : ((x1.toNat : Int) != 1) = false := by rw [bne, e1]; rfl
    by_cases h2 : x2 = 6
    rotate_left
    · have e2 : ((x2.toNat : Int) == 6) = false := beq_eq_false_iff_ne.2 (fun h_ => h2 (UInt8.toNat_inj.1 (by show x2.toNat = 6; omega)))
      have e2n : ((x2.toNat : Int) != 6) = true := by rw [bne, e2]; rfl
      have HB : Hid (okH (x0 :: x1 :: x2 :: x3 :: x4 :: x5 :: x6 :: x7 :: x8 :: x9 :: x10 :: x11 :: x12 :: x13 :: x14 :: x15 :: x16 :: x17 :: x18 :: x19 :: x20 :: x21 :: x22 :: x23 :: x24 :: x25 :: x26 :: x27 :: x28 :: x29 :: x30 :: x31 :: x32 :: x33 :: (u ++ k0 :: k1 :: k2 :: k3 :: r)) = false) := Lib.hid (by rw [HOKE.out, e2]; simp)
      clear h1 h2 hio
      have R14 := (by have h_ := sl_at bs (j := 0) rfl; rw [Nat.add_zero] at h_; exact h_)
      have R19 := (by have h_ := sl_at bs (j := 0) rfl; rw [Nat.add_zero] at h_; exact h_)
      have R25 := sl_at bs (j := 1) rfl
      have R31 := sl_at bs (j := 2) rfl
      go_wp2_with fail
      clear R14 R19 R25 R31
      go_meet
      case rel => exact ⟨by rw [← HNB.out, HB.out]; rfl, hz, bs, bel⟩
    have e2 : ((x2.toNat : Int) == 6) = true := by rw [h2]; rfl
    have e2n : ((x2.toNat : Int) != 6) = false := by rw [bne, e2]; rfl
    have HB : Hid (okH (x0 :: x1 :: x2 :: x3 :: x4 :: x5 :: x6 :: x7 :: x8 :: x9 :: x10 :: x11 :: x12 :: x13 :: x14 :: x15 :: x16 :: x17 :: x18 :: x19 :: x20 :: x21 :: x22 :: x23 :: x24 :: x25 :: x26 :: x27 :: x28 :: x29 :: x30 :: x31 :: x32 :: x33 :: (u ++ k0 :: k1 :: k2 :: k3 :: r)) = decide ([k0, k1, k2, k3] = [99, 130, 83, 99])) := Lib.hid (by rw [HOKE.out, hio, e1, e2]; rfl)
    clear h1 h2 hio
    have R14 := (by have h_ := sl_at bs (j := 0) rfl; rw [Nat.add_zero] at h_; exact h_)
    have R19 := (by have h_ := sl_at bs (j := 0) rfl; rw [Nat.add_zero] at h_; exact h_)
    have R25 := sl_at bs (j := 1) rfl
    have R31 := sl_at bs (j := 2) rfl
    obtain ⟨Amk, cmk, r36, f36, u36⟩ := piece_mid bs (p := 236) (k := 4) (by omega)
    replace r36 : ∀ W, (Instr.slice 34 (.slice (some ⟨gb, ob, none⟩) n c) (some (.int .i64 236)) (some (.int .i64 240)) none).run Try.prog W = .ok (.slice Amk 4 cmk) W := r36
    have mk : Sl w1 Amk 4 cmk ([k0, k1, k2, k3]) := (by (rw [← HMK.out]; exact f36 _ bs))
    have av_mk_z := av_bs_z.sub u36
    clear f36 u36
    have st37 := mk.str (P := Try.prog) 34 5 9 Try.underlying34 Try.underlying5 Try.underlying9
    go_wp2_with fail
    clear R14 R19 R25 R31 st37
    go_meet
    case rel => exact ⟨by rw [← HNB.out, HB.out, mark_or], hz, bs, bel⟩
  clear hz bs bel
  obtain ⟨w53, hw_⟩ : ∃ x, x = wc := ⟨_, rfl⟩
  subst hw_
  obtain ⟨rfl, hz, bs, bel⟩ := hcut
  rcases nb with _ | _
  rotate_left
  · have HP : Hid (dGet (x0 :: x1 :: x2 :: x3 :: x4 :: x5 :: x6 :: x7 :: x8 :: x9 :: x10 :: x11 :: x12 :: x13 :: x14 :: x15 :: x16 :: x17 :: x18 :: x19 :: x20 :: x21 :: x22 :: x23 :: x24 :: x25 :: x26 :: x27 :: x28 :: x29 :: x30 :: x31 :: x32 :: x33 :: (u ++ k0 :: k1 :: k2 :: k3 :: r)) = ((Mh.zero, []), 4)) := Lib.hid (dget_bad hlen (by have h := HNB.out; simpa using h))
    clear hlen
    go_wp2_with (first | ((with_reducible show wpList _ _ _ (⟨none, Op.store _ (.tmp 2) _, _, _, _, _⟩ :: _) _ _); refine wpList_store_blk rfl 42 (.tmp 2) (.tmp 40) rfl g2 rfl _ rfl _ 42 hz (by rfl) (by kernel_rfl) (by kernel_rfl) ?_; intro w54 hq gr; replace bs := bs.away av_bs_z gr; replace bel := below_grown bel gr oz bel.size; clear hz; have hz := hq; clear hq gr))
    exact bodyPost_ret (results_cell_tmp_row rfl _ _ _ _ _ _ _ rfl hz Try.underlying42 rfl (by kernel_rfl) (.int .i64 4) rfl) rfl ⟨Mh.zero, none, 0, 0, [], by rw [HP.out]; rfl, by rw [HP.out], by rw [HP.out]; exact ⟨Sle.nil (by decide) opE_len _, Bd.nil _⟩, Nat.zero_le _, (fun x h => by cases h), bel⟩
  have hokt : okH (x0 :: x1 :: x2 :: x3 :: x4 :: x5 :: x6 :: x7 :: x8 :: x9 :: x10 :: x11 :: x12 :: x13 :: x14 :: x15 :: x16 :: x17 :: x18 :: x19 :: x20 :: x21 :: x22 :: x23 :: x24 :: x25 :: x26 :: x27 :: x28 :: x29 :: x30 :: x31 :: x32 :: x33 :: (u ++ k0 :: k1 :: k2 :: k3 :: r)) = true := by have h := HNB.out; simpa using h
  rcases hq : getL r [] with _ | L0
  · have HG1 : Hid ((getS r).1 = []) := Lib.hid (by rw [gets_no hq])
    have HG3 : Hid ((getL r []).isSome = false) := Lib.hid (get_non hq)
    have HP : Hid (dGet (x0 :: x1 :: x2 :: x3 :: x4 :: x5 :: x6 :: x7 :: x8 :: x9 :: x10 :: x11 :: x12 :: x13 :: x14 :: x15 :: x16 :: x17 :: x18 :: x19 :: x20 :: x21 :: x22 :: x23 :: x24 :: x25 :: x26 :: x27 :: x28 :: x29 :: x30 :: x31 :: x32 :: x33 :: (u ++ k0 :: k1 :: k2 :: k3 :: r)) = ((Mh.zero, []), 3)) := Lib.hid (dget_cut hlen hokt (by rw [HDR.out]; exact hq))
    clear hq hokt hlen
    obtain ⟨Arb, crb, r43, f43, u43⟩ := piece_back bs (k := 240) (by have := H240.out; omega)
    rw [show n - 240 = nr from HNR.out] at r43 f43 u43
    replace r43 : ∀ W, (Instr.slice 34 (.slice (some ⟨gb, ob, none⟩) n c) (some (.int .i64 240)) none none).run Try.prog W = .ok (.slice Arb nr crb) W := r43
    have rb : Sl w53 Arb nr crb (r) := (by (rw [← HDR.out]; have q_ := f43 _ bs; exact q_))
    have av_rb_z := av_bs_z.sub u43
    clear f43 u43
    go_wp2_with fail
    with_reducible refine (rget_bo _ rb (by have := HNR.out; have := HN0.out; omega)).mono ?_
    rintro e w54 ⟨A9, n9, c9, hs9, B, rfl, hB_, own, bo, hn9, hb9, b54⟩
    replace hz := blk_u hz b54
    replace bs := bs.below b54
    replace rb := rb.below b54
    replace bel := bel.trans (b54.mono bel.size)
    clear b54
    rw [HG1.out] at bo
    rw [HG3.out]
    have HN9 := Lib.hid hn9
    have HB9 := Lib.hid hb9
    clear hn9 hb9 hB_
    go_wp2_with (first | ((with_reducible show wpList _ _ _ (⟨none, Op.store _ (.tmp 2) _, _, _, _, _⟩ :: _) _ _); refine wpList_store_blk rfl 42 (.tmp 2) (.tmp 49) rfl g2 rfl _ rfl _ 42 hz (by rfl) (by kernel_rfl) (by kernel_rfl) ?_; intro w55 hq gr; replace bs := bs.away av_bs_z gr; replace rb := rb.away av_rb_z gr; replace bel := below_grown bel gr oz bel.size; clear hz; have hz := hq; clear hq gr))
    exact bodyPost_ret (results_cell_tmp_row rfl _ _ _ _ _ _ _ rfl hz Try.underlying42 rfl (by kernel_rfl) (.int .i64 3) rfl) rfl ⟨Mh.zero, none, 0, 0, [], by rw [HP.out]; rfl, by rw [HP.out], by rw [HP.out]; exact ⟨Sle.nil (by decide) opE_len _, Bd.nil _⟩, Nat.zero_le _, (fun x h => by cases h), bel⟩
  have HG1 : Hid ((getS r).1 = L0) := Lib.hid (by rw [gets_ok hq])
  have HG3 : Hid ((getL r []).isSome = true) := Lib.hid (get_some hq)
  have hq2 : getL (List.drop 240 (x0 :: x1 :: x2 :: x3 :: x4 :: x5 :: x6 :: x7 :: x8 :: x9 :: x10 :: x11 :: x12 :: x13 :: x14 :: x15 :: x16 :: x17 :: x18 :: x19 :: x20 :: x21 :: x22 :: x23 :: x24 :: x25 :: x26 :: x27 :: x28 :: x29 :: x30 :: x31 :: x32 :: x33 :: (u ++ k0 :: k1 :: k2 :: k3 :: r))) [] = some L0 := by rw [HDR.out]; exact hq
  clear hq
  obtain ⟨tt, htt⟩ : ∃ x, typeL L0 = x := ⟨_, rfl⟩
  have HTT := Lib.hid htt
  have HLEN := Lib.hid hlen
  have HOKT := Lib.hid hokt
  have HQ2 := Lib.hid hq2
  have HTY := Lib.hid htt
  clear hlen hokt hq2 htt
  obtain ⟨Arb, crb, r43, f43, u43⟩ := piece_back bs (k := 240) (by have := H240.out; omega)
  rw [show n - 240 = nr from HNR.out] at r43 f43 u43
  replace r43 : ∀ W, (Instr.slice 34 (.slice (some ⟨gb, ob, none⟩) n c) (some (.int .i64 240)) none none).run Try.prog W = .ok (.slice Arb nr crb) W := r43
  have rb : Sl w53 Arb nr crb (r) := (by (rw [← HDR.out]; have q_ := f43 _ bs; exact q_))
  have av_rb_z := av_bs_z.sub u43
  clear f43 u43
  go_wp2_with fail
  with_reducible refine (rget_bo _ rb (by have := HNR.out; have := HN0.out; omega)).mono ?_
  rintro e w54 ⟨A9, n9, c9, hs9, B, rfl, hB_, own, bo, hn9, hb9, b54⟩
  replace hz := blk_u hz b54
  replace bs := bs.below b54
  replace rb := rb.below b54
  replace bel := bel.trans (b54.mono bel.size)
  clear b54
  rw [HG1.out] at bo
  rw [HG3.out]
  have HN9 := Lib.hid hn9
  have HB9 := Lib.hid hb9
  clear hn9 hb9 hB_
  go_wp2_with fail
  go_cut [6] from 9999 (fun s6 W => ∃ g6 : Nat, s6 = .pointer (some ⟨g6, 0, none⟩) ∧ W.heap[g2]? = some (.cells #[.int .i64 0, .int .i64 0, .int .u32 0, .int .i64 0, .int .i64 0, .int .u8 0, .int .u8 0, .int .u8 0, .int .u8 0, .int .u8 0, .int .u8 0, .int .u8 0, .int .u8 0, .int .u8 0, .int .u8 0, .int .u8 0, .int .u8 0, .int .u8 0, .int .u8 0, .int .u8 0, .int .u8 0, .int .u8 0, .int .u8 0, .int .u8 0, .int .u8 0, .int .u8 0, .int .u8 0, .slice none 0 0] 42 (0, 0)) ∧ W.heap[g6]? = some (.cells #[.int .i64 (x0.toNat : Int), .int .i64 (x3.toNat : Int), .int .u32 ((be [x4, x5, x6, x7] : Nat) : Int), .int .i64 ((be [x8, x9] : Nat) : Int), .int .i64 ((be [x10, x11] : Nat) : Int), .int .u8 (x12.toNat : Int), .int .u8 (x13.toNat : Int), .int .u8 (x14.toNat : Int), .int .u8 (x15.toNat : Int), .int .u8 (x16.toNat : Int), .int .u8 (x17.toNat : Int), .int .u8 (x18.toNat : Int), .int .u8 (x19.toNat : Int), .int .u8 (x20.toNat : Int), .int .u8 (x21.toNat : Int), .int .u8 (x22.toNat : Int), .int .u8 (x23.toNat : Int), .int .u8 (x24.toNat : Int), .int .u8 (x25.toNat : Int), .int .u8 (x26.toNat : Int), .int .u8 (x27.toNat : Int), .int .u8 0, .int .u8 0, .int .u8 0, .int .u8 0, .int .u8 0, .int .u8 0, .slice A9 n9 c9] 42 (0, 0)) ∧ w.heap.size ≤ g6 ∧ Hid (g6 ≠ g2) ∧ Sl W (some ⟨gb, ob, none⟩) (n) (c) (x0 :: x1 :: x2 :: x3 :: x4 :: x5 :: x6 :: x7 :: x8 :: x9 :: x10 :: x11 :: x12 :: x13 :: x14 :: x15 :: x16 :: x17 :: x18 :: x19 :: x20 :: x21 :: x22 :: x23 :: x24 :: x25 :: x26 :: x27 :: x28 :: x29 :: x30 :: x31 :: x32 :: x33 :: (u ++ k0 :: k1 :: k2 :: k3 :: r)) ∧ Av (some ⟨gb, ob, none⟩) (n) g6 ∧ Av (some ⟨gb, ob, none⟩) (n) g2 ∧ Sl W (Arb) (nr) (crb) (r) ∧ Av (Arb) (nr) g6 ∧ Av (Arb) (nr) g2 ∧ W.ownsRow B 66 2 (.slice A9 n9 c9) n9 (hs9.flatMap opE) ∧ Bo W B hs9 L0 ∧ Below w.heap.size w W)
  case first =>
    replace bel := bel.drew
    replace hz : w54.drew.heap[g2]? = _ := hz
    replace bs := bs.drew
    replace rb := rb.drew
    replace own := World.ownsRow.drew own
    replace bo := bo.drew
    refine wp_region_held_drew (S := fun W => Sl W (some ⟨gb, ob, none⟩) (n) (c) (x0 :: x1 :: x2 :: x3 :: x4 :: x5 :: x6 :: x7 :: x8 :: x9 :: x10 :: x11 :: x12 :: x13 :: x14 :: x15 :: x16 :: x17 :: x18 :: x19 :: x20 :: x21 :: x22 :: x23 :: x24 :: x25 :: x26 :: x27 :: x28 :: x29 :: x30 :: x31 :: x32 :: x33 :: (u ++ k0 :: k1 :: k2 :: k3 :: r))) (by kernel_rfl) bs (fun hH => ?_)
    generalize w54.drew = w55 at bel hz bs rb own bo hH ⊢
    refine wpAnyH_take (i := 0) (v := ?_) rfl (by kernel_rfl) (by kernel_rfl) (by kernel_rfl) (fun _ _ _ h => h) (Or.inl ⟨by rfl, ?_⟩) hH ?_
    rotate_left
    · ((intro W hW; clear hW; go_simp) <;> with_reducible rfl)
    simp only [Act.put, List.getElem_toArray, List.getElem_cons_zero, List.setIfInBounds_toArray, List.set_cons_zero, List.set_cons_succ]
    refine wpAnyH_take (i := 1) (v := ?_) rfl (by kernel_rfl) (by kernel_rfl) (by kernel_rfl) (fun _ _ _ h => h) (Or.inl ⟨by rfl, ?_⟩) hH ?_
    rotate_left
    · ((intro W hW; clear hW; go_simp) <;> with_reducible rfl)
    simp only [Act.put, List.getElem_toArray, List.getElem_cons_zero, List.getElem_cons_succ, List.setIfInBounds_toArray, List.set_cons_zero, List.set_cons_succ]
    refine wpAnyH_take (i := 2) (v := ?_) rfl (by kernel_rfl) (by kernel_rfl) (by kernel_rfl) (fun _ _ _ h => h) (Or.inl ⟨by rfl, ?_⟩) hH ?_
    rotate_left
    · ((intro W hW; have hk := sl_at (hW) (j := 0) rfl; rw [Nat.add_zero] at hk; clear hW; go_simp) <;> with_reducible rfl)
    simp only [Act.put, List.getElem_toArray, List.getElem_cons_zero, List.getElem_cons_succ, List.setIfInBounds_toArray, List.set_cons_zero, List.set_cons_succ]
    refine wpAnyH_take (i := 3) (v := ?_) rfl (by kernel_rfl) (by kernel_rfl) (by kernel_rfl) (fun _ _ _ h => h) (Or.inl ⟨by rfl, ?_⟩) hH ?_
    rotate_left
    · ((intro W hW; clear hW; go_simp) <;> with_reducible rfl)
    simp only [Act.put, List.getElem_toArray, List.getElem_cons_zero, List.getElem_cons_succ, List.setIfInBounds_toArray, List.set_cons_zero, List.set_cons_succ]
    refine wpAnyH_take (i := 4) (v := ?_) rfl (by kernel_rfl) (by kernel_rfl) (by kernel_rfl) (fun _ _ _ h => h) (Or.inl ⟨by rfl, ?_⟩) hH ?_
    rotate_left
    · ((intro W hW; clear hW; go_simp) <;> with_reducible rfl)
    simp only [Act.put, List.getElem_toArray, List.getElem_cons_zero, List.getElem_cons_succ, List.setIfInBounds_toArray, List.set_cons_zero, List.set_cons_succ]
    refine wpAnyH_take (i := 5) (v := ?_) rfl (by kernel_rfl) (by kernel_rfl) (by kernel_rfl) (fun _ _ _ h => h) (Or.inl ⟨by rfl, ?_⟩) hH ?_
    rotate_left
    · ((intro W hW; clear hW; go_simp) <;> with_reducible rfl)
    simp only [Act.put, List.getElem_toArray, List.getElem_cons_zero, List.getElem_cons_succ, List.setIfInBounds_toArray, List.set_cons_zero, List.set_cons_succ]
    refine wpAnyH_take (i := 6) (v := ?_) rfl (by kernel_rfl) (by kernel_rfl) (by kernel_rfl) (fun _ _ _ h => h) (Or.inl ⟨by rfl, ?_⟩) hH ?_
    rotate_left
    · ((intro W hW; have hk := sl_at (hW) (j := 3) rfl; clear hW; go_simp) <;> with_reducible rfl)
    simp only [Act.put, List.getElem_toArray, List.getElem_cons_zero, List.getElem_cons_succ, List.setIfInBounds_toArray, List.set_cons_zero, List.set_cons_succ]
    refine wpAnyH_take (i := 7) (v := ?_) rfl (by kernel_rfl) (by kernel_rfl) (by kernel_rfl) (fun _ _ _ h => h) (Or.inl ⟨by rfl, ?_⟩) hH ?_
    rotate_left
    · ((intro W hW; clear hW; go_simp) <;> with_reducible rfl)
    simp only [Act.put, List.getElem_toArray, List.getElem_cons_zero, List.getElem_cons_succ, List.setIfInBounds_toArray, List.set_cons_zero, List.set_cons_succ]
    refine wpAnyH_take (i := 8) (v := ?_) rfl (by kernel_rfl) (by kernel_rfl) (by kernel_rfl) (fun _ _ _ h => h) (Or.inl ⟨by rfl, ?_⟩) hH ?_
    rotate_left
    · ((intro W hW; clear hW; go_simp) <;> with_reducible rfl)
    simp only [Act.put, List.getElem_toArray, List.getElem_cons_zero, List.getElem_cons_succ, List.setIfInBounds_toArray, List.set_cons_zero, List.set_cons_succ]
    refine wpAnyH_take (i := 10) (v := ?_) rfl (by kernel_rfl) (by kernel_rfl) (by kernel_rfl) (fun _ _ _ h => h) (Or.inl ⟨by rfl, ?_⟩) hH ?_
    rotate_left
    · ((intro W hW; clear hW; go_simp) <;> with_reducible rfl)
    simp only [Act.put, List.getElem_toArray, List.getElem_cons_zero, List.getElem_cons_succ, List.setIfInBounds_toArray, List.set_cons_zero, List.set_cons_succ]
    refine wpAnyH_take (i := 12) (v := ?_) rfl (by kernel_rfl) (by kernel_rfl) (by kernel_rfl) (fun _ _ _ h => h) (Or.inl ⟨by rfl, ?_⟩) hH ?_
    rotate_left
    · ((intro W hW; clear hW; go_simp) <;> with_reducible rfl)
    simp only [Act.put, List.getElem_toArray, List.getElem_cons_zero, List.getElem_cons_succ, List.setIfInBounds_toArray, List.set_cons_zero, List.set_cons_succ]
    refine wpAnyH_take (i := 14) (v := ?_) rfl (by kernel_rfl) (by kernel_rfl) (by kernel_rfl) (fun _ _ _ h => h) (Or.inl ⟨by rfl, ?_⟩) hH ?_
    rotate_left
    · ((intro W hW; clear hW; go_simp) <;> with_reducible rfl)
    simp only [Act.put, List.getElem_toArray, List.getElem_cons_zero, List.getElem_cons_succ, List.setIfInBounds_toArray, List.set_cons_zero, List.set_cons_succ]
    refine wpAnyH_take (i := 16) (v := ?_) rfl (by kernel_rfl) (by kernel_rfl) (by kernel_rfl) (fun _ _ _ h => h) (Or.inl ⟨by rfl, ?_⟩) hH ?_
    rotate_left
    · ((intro W hW; clear hW; go_simp) <;> with_reducible rfl)
    simp only [Act.put, List.getElem_toArray, List.getElem_cons_zero, List.getElem_cons_succ, List.setIfInBounds_toArray, List.set_cons_zero, List.set_cons_succ]
    refine wpAnyH_take (i := 18) (v := ?_) rfl (by kernel_rfl) (by kernel_rfl) (by kernel_rfl) (fun _ _ _ h => h) (Or.inl ⟨by rfl, ?_⟩) hH ?_
    rotate_left
    · ((intro W hW; clear hW; go_simp) <;> with_reducible rfl)
    simp only [Act.put, List.getElem_toArray, List.getElem_cons_zero, List.getElem_cons_succ, List.setIfInBounds_toArray, List.set_cons_zero, List.set_cons_succ]
    refine wpAnyH_take (i := 20) (v := ?_) rfl (by kernel_rfl) (by kernel_rfl) (by kernel_rfl) (fun _ _ _ h => h) (Or.inl ⟨by rfl, ?_⟩) hH ?_
    rotate_left
    · ((intro W hW; clear hW; go_simp) <;> with_reducible rfl)
    simp only [Act.put, List.getElem_toArray, List.getElem_cons_zero, List.getElem_cons_succ, List.setIfInBounds_toArray, List.set_cons_zero, List.set_cons_succ]
    refine wpAnyH_take (i := 22) (v := ?_) rfl (by kernel_rfl) (by kernel_rfl) (by kernel_rfl) (fun _ _ _ h => h) (Or.inl ⟨by rfl, ?_⟩) hH ?_
    rotate_left
    · ((intro W hW; clear hW; go_simp) <;> with_reducible rfl)
    simp only [Act.put, List.getElem_toArray, List.getElem_cons_zero, List.getElem_cons_succ, List.setIfInBounds_toArray, List.set_cons_zero, List.set_cons_succ]
    refine wpAnyH_ready (rs := [9, 24]) (by kernel_rfl) (by simp) ?_
    refine AllReadyH.cons (o := _) rfl (fun K hK => ?_) (AllReadyH.cons (o := _) rfl (fun K hK => ?_) AllReadyH.nil)
    rotate_left
    · simp only [List.getElem_toArray, List.getElem_cons_zero, List.getElem_cons_succ]
      rw [if_pos (by rfl)]
      refine wp_new_a 42 rfl #[.int .i64 0, .int .i64 0, .int .u32 0, .int .i64 0, .int .i64 0, .int .u8 0, .int .u8 0, .int .u8 0, .int .u8 0, .int .u8 0, .int .u8 0, .int .u8 0, .int .u8 0, .int .u8 0, .int .u8 0, .int .u8 0, .int .u8 0, .int .u8 0, .int .u8 0, .int .u8 0, .int .u8 0, .int .u8 0, .int .u8 0, .int .u8 0, .int .u8 0, .int .u8 0, .int .u8 0, .slice none 0 0] (by kernel_rfl) ?_
      intro g6 w56 ge hh bb
      have d_z_m := ne_new (hlt hz) ge
      have av_bs_m := bs.av_new ge
      have av_rb_m := rb.av_new ge
      have om := Nat.le_trans bel.size ge
      replace hz := blk_u hz bb
      replace bs := bs.below bb
      replace rb := rb.below bb
      replace own := owk_under own bb
      replace bo := bo.below bb
      replace bel := bel.trans (bb.mono bel.size)
      have hm := hh
      clear hh ge bb
      refine hK.out _ _ bs (fun hH57 => ?_)
      clear hK K
      simp only [Act.put, List.setIfInBounds_toArray, List.set_cons_zero, List.set_cons_succ]
      refine wpAnyH_ready (rs := [9]) (by kernel_rfl) (by simp) ?_
      refine AllReadyH.cons (o := _) rfl (fun K hK => ?_) AllReadyH.nil
      simp only [List.getElem_toArray, List.getElem_cons_zero, List.getElem_cons_succ]
      go_simp
      with_reducible refine (ra32_4 _ bs H240.out HQ4.out).mono ?_
      rintro e w58 ⟨rfl, b58⟩
      dsimp only
      replace hz := blk_u hz b58
      replace hm := blk_u hm b58
      replace bs := bs.below b58
      replace rb := rb.below b58
      replace own := owk_under own b58
      replace bo := bo.below b58
      replace bel := bel.trans (b58.mono bel.size)
      clear b58
      refine hK.out _ _ bs (fun hH59 => ?_)
      clear hK K
      refine wpAnyH_ready (rs := [11]) (by kernel_rfl) (by simp) ?_
      refine AllReadyH.cons (o := _) rfl (fun K hK => ?_) AllReadyH.nil
      simp only [List.getElem_toArray, List.getElem_cons_zero, List.getElem_cons_succ]
      go_simp
      with_reducible refine (ra16_8 _ bs H240.out HQ8.out).mono ?_
      rintro e w60 ⟨rfl, b60⟩
      dsimp only
      replace hz := blk_u hz b60
      replace hm := blk_u hm b60
      replace bs := bs.below b60
      replace rb := rb.below b60
      replace own := owk_under own b60
      replace bo := bo.below b60
      replace bel := bel.trans (b60.mono bel.size)
      clear b60
      refine hK.out _ _ bs (fun hH61 => ?_)
      clear hK K
      refine wpAnyH_ready (rs := [13]) (by kernel_rfl) (by simp) ?_
      refine AllReadyH.cons (o := _) rfl (fun K hK => ?_) AllReadyH.nil
      simp only [List.getElem_toArray, List.getElem_cons_zero, List.getElem_cons_succ]
      go_simp
      with_reducible refine (ra16_10 _ bs H240.out HQ10.out).mono ?_
      rintro e w62 ⟨rfl, b62⟩
      dsimp only
      replace hz := blk_u hz b62
      replace hm := blk_u hm b62
      replace bs := bs.below b62
      replace rb := rb.below b62
      replace own := owk_under own b62
      replace bo := bo.below b62
      replace bel := bel.trans (b62.mono bel.size)
      clear b62
      refine hK.out _ _ bs (fun hH63 => ?_)
      clear hK K
      refine wpAnyH_ready (rs := [15]) (by kernel_rfl) (by simp) ?_
      refine AllReadyH.cons (o := _) rfl (fun K hK => ?_) AllReadyH.nil
      simp only [List.getElem_toArray, List.getElem_cons_zero, List.getElem_cons_succ]
      go_simp
      with_reducible refine (ra_12 _ bs H240.out HQ12.out).mono ?_
      rintro e w64 ⟨rfl, b64⟩
      dsimp only
      replace hz := blk_u hz b64
      replace hm := blk_u hm b64
      replace bs := bs.below b64
      replace rb := rb.below b64
      replace own := owk_under own b64
      replace bo := bo.below b64
      replace bel := bel.trans (b64.mono bel.size)
      clear b64
      refine hK.out _ _ bs (fun hH65 => ?_)
      clear hK K
      refine wpAnyH_ready (rs := [17]) (by kernel_rfl) (by simp) ?_
      refine AllReadyH.cons (o := _) rfl (fun K hK => ?_) AllReadyH.nil
      simp only [List.getElem_toArray, List.getElem_cons_zero, List.getElem_cons_succ]
      go_simp
      with_reducible refine (ra_16 _ bs H240.out HQ16.out).mono ?_
      rintro e w66 ⟨rfl, b66⟩
      dsimp only
      replace hz := blk_u hz b66
      replace hm := blk_u hm b66
      replace bs := bs.below b66
      replace rb := rb.below b66
      replace own := owk_under own b66
      replace bo := bo.below b66
      replace bel := bel.trans (b66.mono bel.size)
      clear b66
      refine hK.out _ _ bs (fun hH67 => ?_)
      clear hK K
      refine wpAnyH_ready (rs := [19]) (by kernel_rfl) (by simp) ?_
      refine AllReadyH.cons (o := _) rfl (fun K hK => ?_) AllReadyH.nil
      simp only [List.getElem_toArray, List.getElem_cons_zero, List.getElem_cons_succ]
      go_simp
      with_reducible refine (ra_20 _ bs H240.out HQ20.out).mono ?_
      rintro e w68 ⟨rfl, b68⟩
      dsimp only
      replace hz := blk_u hz b68
      replace hm := blk_u hm b68
      replace bs := bs.below b68
      replace rb := rb.below b68
      replace own := owk_under own b68
      replace bo := bo.below b68
      replace bel := bel.trans (b68.mono bel.size)
      clear b68
      refine hK.out _ _ bs (fun hH69 => ?_)
      clear hK K
      refine wpAnyH_ready (rs := [21]) (by kernel_rfl) (by simp) ?_
      refine AllReadyH.cons (o := _) rfl (fun K hK => ?_) AllReadyH.nil
      simp only [List.getElem_toArray, List.getElem_cons_zero, List.getElem_cons_succ]
      go_simp
      with_reducible refine (ra_24 _ bs H240.out HQ24.out).mono ?_
      rintro e w70 ⟨rfl, b70⟩
      dsimp only
      replace hz := blk_u hz b70
      replace hm := blk_u hm b70
      replace bs := bs.below b70
      replace rb := rb.below b70
      replace own := owk_under own b70
      replace bo := bo.below b70
      replace bel := bel.trans (b70.mono bel.size)
      clear b70
      refine hK.out _ _ bs (fun hH71 => ?_)
      clear hK K
      refine wpAnyH_take (i := 23) (v := ?_) rfl (by kernel_rfl) (by kernel_rfl) (by kernel_rfl) (fun _ _ _ h => h) (Or.inl ⟨by rfl, ?_⟩) hH71 ?_
      rotate_left
      · ((intro W hW; clear hW; go_simp) <;> with_reducible rfl)
      simp only [Act.put, List.getElem_toArray, List.getElem_cons_zero, List.getElem_cons_succ, List.setIfInBounds_toArray, List.set_cons_zero, List.set_cons_succ]
      refine wpAnyH_ready (rs := [25]) (by kernel_rfl) (by simp) ?_
      refine AllReadyH.cons (o := _) rfl (fun K hK => ?_) AllReadyH.nil
      simp only [List.getElem_toArray, List.getElem_cons_zero, List.getElem_cons_succ]
      rw [if_pos (by rfl)]
      refine wp_store_blk 42 (.tmp 6) (.tmp 73) rfl g6 rfl _ rfl _ 42 hm (by rfl) (by kernel_rfl) (by kernel_rfl) ?_
      intro w72 hq gr
      replace bs := bs.away av_bs_m gr
      replace rb := rb.away av_rb_m gr
      replace hz := blk_a hz gr d_z_m
      replace own := (kt_grown gr hm (by simp) : Kt [42] _ _).own own (by decide)
      replace bo := bo.kt (kt_grown gr hm (by simp) : Kt [42] _ _) (by decide)
      replace bel := below_grown bel gr om bel.size
      clear hm
      have hm := hq
      clear hq gr
      refine hK.out _ _ bs (fun hH73 => ?_)
      clear hK K
      simp only [Act.put]
      refine wpAnyH_done (by kernel_rfl) ?_ _
      go_wp2_with fail
      go_meet
      case rel => exact ⟨g6, rfl, hz, hm, om, (ne_symm d_z_m), bs, av_bs_m, av_bs_z, rb, av_rb_m, av_rb_z, own, bo, bel⟩
    simp only [List.getElem_toArray, List.getElem_cons_zero, List.getElem_cons_succ]
    go_simp
    with_reducible refine (ra32_4 _ bs H240.out HQ4.out).mono ?_
    rintro e w56 ⟨rfl, b56⟩
    dsimp only
    replace hz := blk_u hz b56
    replace bs := bs.below b56
    replace rb := rb.below b56
    replace own := owk_under own b56
    replace bo := bo.below b56
    replace bel := bel.trans (b56.mono bel.size)
    clear b56
    refine hK.out _ _ bs (fun hH57 => ?_)
    clear hK K
    refine wpAnyH_ready (rs := [11, 24]) (by kernel_rfl) (by simp) ?_
    refine AllReadyH.cons (o := _) rfl (fun K hK => ?_) (AllReadyH.cons (o := _) rfl (fun K hK => ?_) AllReadyH.nil)
    rotate_left
    · simp only [List.getElem_toArray, List.getElem_cons_zero, List.getElem_cons_succ]
      rw [if_pos (by rfl)]
      refine wp_new_a 42 rfl #[.int .i64 0, .int .i64 0, .int .u32 0, .int .i64 0, .int .i64 0, .int .u8 0, .int .u8 0, .int .u8 0, .int .u8 0, .int .u8 0, .int .u8 0, .int .u8 0, .int .u8 0, .int .u8 0, .int .u8 0, .int .u8 0, .int .u8 0, .int .u8 0, .int .u8 0, .int .u8 0, .int .u8 0, .int .u8 0, .int .u8 0, .int .u8 0, .int .u8 0, .int .u8 0, .int .u8 0, .slice none 0 0] (by kernel_rfl) ?_
      intro g6 w58 ge hh bb
      have d_z_m := ne_new (hlt hz) ge
      have av_bs_m := bs.av_new ge
      have av_rb_m := rb.av_new ge
      have om := Nat.le_trans bel.size ge
      replace hz := blk_u hz bb
      replace bs := bs.below bb
      replace rb := rb.below bb
      replace own := owk_under own bb
      replace bo := bo.below bb
      replace bel := bel.trans (bb.mono bel.size)
      have hm := hh
      clear hh ge bb
      refine hK.out _ _ bs (fun hH59 => ?_)
      clear hK K
      simp only [Act.put, List.setIfInBounds_toArray, List.set_cons_zero, List.set_cons_succ]
      refine wpAnyH_ready (rs := [11]) (by kernel_rfl) (by simp) ?_
      refine AllReadyH.cons (o := _) rfl (fun K hK => ?_) AllReadyH.nil
      simp only [List.getElem_toArray, List.getElem_cons_zero, List.getElem_cons_succ]
      go_simp
      with_reducible refine (ra16_8 _ bs H240.out HQ8.out).mono ?_
      rintro e w60 ⟨rfl, b60⟩
      dsimp only
      replace hz := blk_u hz b60
      replace hm := blk_u hm b60
      replace bs := bs.below b60
      replace rb := rb.below b60
      replace own := owk_under own b60
      replace bo := bo.below b60
      replace bel := bel.trans (b60.mono bel.size)
      clear b60
      refine hK.out _ _ bs (fun hH61 => ?_)
      clear hK K
      refine wpAnyH_ready (rs := [13]) (by kernel_rfl) (by simp) ?_
      refine AllReadyH.cons (o := _) rfl (fun K hK => ?_) AllReadyH.nil
      simp only [List.getElem_toArray, List.getElem_cons_zero, List.getElem_cons_succ]
      go_simp
      with_reducible refine (ra16_10 _ bs H240.out HQ10.out).mono ?_
      rintro e w62 ⟨rfl, b62⟩
      dsimp only
      replace hz := blk_u hz b62
      replace hm := blk_u hm b62
      replace bs := bs.below b62
      replace rb := rb.below b62
      replace own := owk_under own b62
      replace bo := bo.below b62
      replace bel := bel.trans (b62.mono bel.size)
      clear b62
      refine hK.out _ _ bs (fun hH63 => ?_)
      clear hK K
      refine wpAnyH_ready (rs := [15]) (by kernel_rfl) (by simp) ?_
      refine AllReadyH.cons (o := _) rfl (fun K hK => ?_) AllReadyH.nil
      simp only [List.getElem_toArray, List.getElem_cons_zero, List.getElem_cons_succ]
      go_simp
      with_reducible refine (ra_12 _ bs H240.out HQ12.out).mono ?_
      rintro e w64 ⟨rfl, b64⟩
      dsimp only
      replace hz := blk_u hz b64
      replace hm := blk_u hm b64
      replace bs := bs.below b64
      replace rb := rb.below b64
      replace own := owk_under own b64
      replace bo := bo.below b64
      replace bel := bel.trans (b64.mono bel.size)
      clear b64
      refine hK.out _ _ bs (fun hH65 => ?_)
      clear hK K
      refine wpAnyH_ready (rs := [17]) (by kernel_rfl) (by simp) ?_
      refine AllReadyH.cons (o := _) rfl (fun K hK => ?_) AllReadyH.nil
      simp only [List.getElem_toArray, List.getElem_cons_zero, List.getElem_cons_succ]
      go_simp
      with_reducible refine (ra_16 _ bs H240.out HQ16.out).mono ?_
      rintro e w66 ⟨rfl, b66⟩
      dsimp only
      replace hz := blk_u hz b66
      replace hm := blk_u hm b66
      replace bs := bs.below b66
      replace rb := rb.below b66
      replace own := owk_under own b66
      replace bo := bo.below b66
      replace bel := bel.trans (b66.mono bel.size)
      clear b66
      refine hK.out _ _ bs (fun hH67 => ?_)
      clear hK K
      refine wpAnyH_ready (rs := [19]) (by kernel_rfl) (by simp) ?_
      refine AllReadyH.cons (o := _) rfl (fun K hK => ?_) AllReadyH.nil
      simp only [List.getElem_toArray, List.getElem_cons_zero, List.getElem_cons_succ]
      go_simp
      with_reducible refine (ra_20 _ bs H240.out HQ20.out).mono ?_
      rintro e w68 ⟨rfl, b68⟩
      dsimp only
      replace hz := blk_u hz b68
      replace hm := blk_u hm b68
      replace bs := bs.below b68
      replace rb := rb.below b68
      replace own := owk_under own b68
      replace bo := bo.below b68
      replace bel := bel.trans (b68.mono bel.size)
      clear b68
      refine hK.out _ _ bs (fun hH69 => ?_)
      clear hK K
      refine wpAnyH_ready (rs := [21]) (by kernel_rfl) (by simp) ?_
      refine AllReadyH.cons (o := _) rfl (fun K hK => ?_) AllReadyH.nil
      simp only [List.getElem_toArray, List.getElem_cons_zero, List.getElem_cons_succ]
      go_simp
      with_reducible refine (ra_24 _ bs H240.out HQ24.out).mono ?_
      rintro e w70 ⟨rfl, b70⟩
      dsimp only
      replace hz := blk_u hz b70
      replace hm := blk_u hm b70
      replace bs := bs.below b70
      replace rb := rb.below b70
      replace own := owk_under own b70
      replace bo := bo.below b70
      replace bel := bel.trans (b70.mono bel.size)
      clear b70
      refine hK.out _ _ bs (fun hH71 => ?_)
      clear hK K
      refine wpAnyH_take (i := 23) (v := ?_) rfl (by kernel_rfl) (by kernel_rfl) (by kernel_rfl) (fun _ _ _ h => h) (Or.inl ⟨by rfl, ?_⟩) hH71 ?_
      rotate_left
      · ((intro W hW; clear hW; go_simp) <;> with_reducible rfl)
      simp only [Act.put, List.getElem_toArray, List.getElem_cons_zero, List.getElem_cons_succ, List.setIfInBounds_toArray, List.set_cons_zero, List.set_cons_succ]
      refine wpAnyH_ready (rs := [25]) (by kernel_rfl) (by simp) ?_
      refine AllReadyH.cons (o := _) rfl (fun K hK => ?_) AllReadyH.nil
      simp only [List.getElem_toArray, List.getElem_cons_zero, List.getElem_cons_succ]
      rw [if_pos (by rfl)]
      refine wp_store_blk 42 (.tmp 6) (.tmp 73) rfl g6 rfl _ rfl _ 42 hm (by rfl) (by kernel_rfl) (by kernel_rfl) ?_
      intro w72 hq gr
      replace bs := bs.away av_bs_m gr
      replace rb := rb.away av_rb_m gr
      replace hz := blk_a hz gr d_z_m
      replace own := (kt_grown gr hm (by simp) : Kt [42] _ _).own own (by decide)
      replace bo := bo.kt (kt_grown gr hm (by simp) : Kt [42] _ _) (by decide)
      replace bel := below_grown bel gr om bel.size
      clear hm
      have hm := hq
      clear hq gr
      refine hK.out _ _ bs (fun hH73 => ?_)
      clear hK K
      simp only [Act.put]
      refine wpAnyH_done (by kernel_rfl) ?_ _
      go_wp2_with fail
      go_meet
      case rel => exact ⟨g6, rfl, hz, hm, om, (ne_symm d_z_m), bs, av_bs_m, av_bs_z, rb, av_rb_m, av_rb_z, own, bo, bel⟩
    simp only [List.getElem_toArray, List.getElem_cons_zero, List.getElem_cons_succ]
    go_simp
    with_reducible refine (ra16_8 _ bs H240.out HQ8.out).mono ?_
    rintro e w58 ⟨rfl, b58⟩
    dsimp only
    replace hz := blk_u hz b58
    replace bs := bs.below b58
    replace rb := rb.below b58
    replace own := owk_under own b58
    replace bo := bo.below b58
    replace bel := bel.trans (b58.mono bel.size)
    clear b58
    refine hK.out _ _ bs (fun hH59 => ?_)
    clear hK K
    refine wpAnyH_ready (rs := [13, 24]) (by kernel_rfl) (by simp) ?_
    refine AllReadyH.cons (o := _) rfl (fun K hK => ?_) (AllReadyH.cons (o := _) rfl (fun K hK => ?_) AllReadyH.nil)
    rotate_left
    · simp only [List.getElem_toArray, List.getElem_cons_zero, List.getElem_cons_succ]
      rw [if_pos (by rfl)]
      refine wp_new_a 42 rfl #[.int .i64 0, .int .i64 0, .int .u32 0, .int .i64 0, .int .i64 0, .int .u8 0, .int .u8 0, .int .u8 0, .int .u8 0, .int .u8 0, .int .u8 0, .int .u8 0, .int .u8 0, .int .u8 0, .int .u8 0, .int .u8 0, .int .u8 0, .int .u8 0, .int .u8 0, .int .u8 0, .int .u8 0, .int .u8 0, .int .u8 0, .int .u8 0, .int .u8 0, .int .u8 0, .int .u8 0, .slice none 0 0] (by kernel_rfl) ?_
      intro g6 w60 ge hh bb
      have d_z_m := ne_new (hlt hz) ge
      have av_bs_m := bs.av_new ge
      have av_rb_m := rb.av_new ge
      have om := Nat.le_trans bel.size ge
      replace hz := blk_u hz bb
      replace bs := bs.below bb
      replace rb := rb.below bb
      replace own := owk_under own bb
      replace bo := bo.below bb
      replace bel := bel.trans (bb.mono bel.size)
      have hm := hh
      clear hh ge bb
      refine hK.out _ _ bs (fun hH61 => ?_)
      clear hK K
      simp only [Act.put, List.setIfInBounds_toArray, List.set_cons_zero, List.set_cons_succ]
      refine wpAnyH_ready (rs := [13]) (by kernel_rfl) (by simp) ?_
      refine AllReadyH.cons (o := _) rfl (fun K hK => ?_) AllReadyH.nil
      simp only [List.getElem_toArray, List.getElem_cons_zero, List.getElem_cons_succ]
      go_simp
      with_reducible refine (ra16_10 _ bs H240.out HQ10.out).mono ?_
      rintro e w62 ⟨rfl, b62⟩
      dsimp only
      replace hz := blk_u hz b62
      replace hm := blk_u hm b62
      replace bs := bs.below b62
      replace rb := rb.below b62
      replace own := owk_under own b62
      replace bo := bo.below b62
      replace bel := bel.trans (b62.mono bel.size)
      clear b62
      refine hK.out _ _ bs (fun hH63 => ?_)
      clear hK K
      refine wpAnyH_ready (rs := [15]) (by kernel_rfl) (by simp) ?_
      refine AllReadyH.cons (o := _) rfl (fun K hK => ?_) AllReadyH.nil
      simp only [List.getElem_toArray, List.getElem_cons_zero, List.getElem_cons_succ]
      go_simp
      with_reducible refine (ra_12 _ bs H240.out HQ12.out).mono ?_
      rintro e w64 ⟨rfl, b64⟩
      dsimp only
      replace hz := blk_u hz b64
      replace hm := blk_u hm b64
      replace bs := bs.below b64
      replace rb := rb.below b64
      replace own := owk_under own b64
      replace bo := bo.below b64
      replace bel := bel.trans (b64.mono bel.size)
      clear b64
      refine hK.out _ _ bs (fun hH65 => ?_)
      clear hK K
      refine wpAnyH_ready (rs := [17]) (by kernel_rfl) (by simp) ?_
      refine AllReadyH.cons (o := _) rfl (fun K hK => ?_) AllReadyH.nil
      simp only [List.getElem_toArray, List.getElem_cons_zero, List.getElem_cons_succ]
      go_simp
      with_reducible refine (ra_16 _ bs H240.out HQ16.out).mono ?_
      rintro e w66 ⟨rfl, b66⟩
      dsimp only
      replace hz := blk_u hz b66
      replace hm := blk_u hm b66
      replace bs := bs.below b66
      replace rb := rb.below b66
      replace own := owk_under own b66
      replace bo := bo.below b66
      replace bel := bel.trans (b66.mono bel.size)
      clear b66
      refine hK.out _ _ bs (fun hH67 => ?_)
      clear hK K
      refine wpAnyH_ready (rs := [19]) (by kernel_rfl) (by simp) ?_
      refine AllReadyH.cons (o := _) rfl (fun K hK => ?_) AllReadyH.nil
      simp only [List.getElem_toArray, List.getElem_cons_zero, List.getElem_cons_succ]
      go_simp
      with_reducible refine (ra_20 _ bs H240.out HQ20.out).mono ?_
      rintro e w68 ⟨rfl, b68⟩
      dsimp only
      replace hz := blk_u hz b68
      replace hm := blk_u hm b68
      replace bs := bs.below b68
      replace rb := rb.below b68
      replace own := owk_under own b68
      replace bo := bo.below b68
      replace bel := bel.trans (b68.mono bel.size)
      clear b68
      refine hK.out _ _ bs (fun hH69 => ?_)
      clear hK K
      refine wpAnyH_ready (rs := [21]) (by kernel_rfl) (by simp) ?_
      refine AllReadyH.cons (o := _) rfl (fun K hK => ?_) AllReadyH.nil
      simp only [List.getElem_toArray, List.getElem_cons_zero, List.getElem_cons_succ]
      go_simp
      with_reducible refine (ra_24 _ bs H240.out HQ24.out).mono ?_
      rintro e w70 ⟨rfl, b70⟩
      dsimp only
      replace hz := blk_u hz b70
      replace hm := blk_u hm b70
      replace bs := bs.below b70
      replace rb := rb.below b70
      replace own := owk_under own b70
      replace bo := bo.below b70
      replace bel := bel.trans (b70.mono bel.size)
      clear b70
      refine hK.out _ _ bs (fun hH71 => ?_)
      clear hK K
      refine wpAnyH_take (i := 23) (v := ?_) rfl (by kernel_rfl) (by kernel_rfl) (by kernel_rfl) (fun _ _ _ h => h) (Or.inl ⟨by rfl, ?_⟩) hH71 ?_
      rotate_left
      · ((intro W hW; clear hW; go_simp) <;> with_reducible rfl)
      simp only [Act.put, List.getElem_toArray, List.getElem_cons_zero, List.getElem_cons_succ, List.setIfInBounds_toArray, List.set_cons_zero, List.set_cons_succ]
      refine wpAnyH_ready (rs := [25]) (by kernel_rfl) (by simp) ?_
      refine AllReadyH.cons (o := _) rfl (fun K hK => ?_) AllReadyH.nil
      simp only [List.getElem_toArray, List.getElem_cons_zero, List.getElem_cons_succ]
      rw [if_pos (by rfl)]
      refine wp_store_blk 42 (.tmp 6) (.tmp 73) rfl g6 rfl _ rfl _ 42 hm (by rfl) (by kernel_rfl) (by kernel_rfl) ?_
      intro w72 hq gr
      replace bs := bs.away av_bs_m gr
      replace rb := rb.away av_rb_m gr
      replace hz := blk_a hz gr d_z_m
      replace own := (kt_grown gr hm (by simp) : Kt [42] _ _).own own (by decide)
      replace bo := bo.kt (kt_grown gr hm (by simp) : Kt [42] _ _) (by decide)
      replace bel := below_grown bel gr om bel.size
      clear hm
      have hm := hq
      clear hq gr
      refine hK.out _ _ bs (fun hH73 => ?_)
      clear hK K
      simp only [Act.put]
      refine wpAnyH_done (by kernel_rfl) ?_ _
      go_wp2_with fail
      go_meet
      case rel => exact ⟨g6, rfl, hz, hm, om, (ne_symm d_z_m), bs, av_bs_m, av_bs_z, rb, av_rb_m, av_rb_z, own, bo, bel⟩
    simp only [List.getElem_toArray, List.getElem_cons_zero, List.getElem_cons_succ]
    go_simp
    with_reducible refine (ra16_10 _ bs H240.out HQ10.out).mono ?_
    rintro e w60 ⟨rfl, b60⟩
    dsimp only
    replace hz := blk_u hz b60
    replace bs := bs.below b60
    replace rb := rb.below b60
    replace own := owk_under own b60
    replace bo := bo.below b60
    replace bel := bel.trans (b60.mono bel.size)
    clear b60
    refine hK.out _ _ bs (fun hH61 => ?_)
    clear hK K
    refine wpAnyH_ready (rs := [15, 24]) (by kernel_rfl) (by simp) ?_
    refine AllReadyH.cons (o := _) rfl (fun K hK => ?_) (AllReadyH.cons (o := _) rfl (fun K hK => ?_) AllReadyH.nil)
    rotate_left
    · simp only [List.getElem_toArray, List.getElem_cons_zero, List.getElem_cons_succ]
      rw [if_pos (by rfl)]
      refine wp_new_a 42 rfl #[.int .i64 0, .int .i64 0, .int .u32 0, .int .i64 0, .int .i64 0, .int .u8 0, .int .u8 0, .int .u8 0, .int .u8 0, .int .u8 0, .int .u8 0, .int .u8 0, .int .u8 0, .int .u8 0, .int .u8 0, .int .u8 0, .int .u8 0, .int .u8 0, .int .u8 0, .int .u8 0, .int .u8 0, .int .u8 0, .int .u8 0, .int .u8 0, .int .u8 0, .int .u8 0, .int .u8 0, .slice none 0 0] (by kernel_rfl) ?_
      intro g6 w62 ge hh bb
      have d_z_m := ne_new (hlt hz) ge
      have av_bs_m := bs.av_new ge
      have av_rb_m := rb.av_new ge
      have om := Nat.le_trans bel.size ge
      replace hz := blk_u hz bb
      replace bs := bs.below bb
      replace rb := rb.below bb
      replace own := owk_under own bb
      replace bo := bo.below bb
      replace bel := bel.trans (bb.mono bel.size)
      have hm := hh
      clear hh ge bb
      refine hK.out _ _ bs (fun hH63 => ?_)
      clear hK K
      simp only [Act.put, List.setIfInBounds_toArray, List.set_cons_zero, List.set_cons_succ]
      refine wpAnyH_ready (rs := [15]) (by kernel_rfl) (by simp) ?_
      refine AllReadyH.cons (o := _) rfl (fun K hK => ?_) AllReadyH.nil
      simp only [List.getElem_toArray, List.getElem_cons_zero, List.getElem_cons_succ]
      go_simp
      with_reducible refine (ra_12 _ bs H240.out HQ12.out).mono ?_
      rintro e w64 ⟨rfl, b64⟩
      dsimp only
      replace hz := blk_u hz b64
      replace hm := blk_u hm b64
      replace bs := bs.below b64
      replace rb := rb.below b64
      replace own := owk_under own b64
      replace bo := bo.below b64
      replace bel := bel.trans (b64.mono bel.size)
      clear b64
      refine hK.out _ _ bs (fun hH65 => ?_)
      clear hK K
      refine wpAnyH_ready (rs := [17]) (by kernel_rfl) (by simp) ?_
      refine AllReadyH.cons (o := _) rfl (fun K hK => ?_) AllReadyH.nil
      simp only [List.getElem_toArray, List.getElem_cons_zero, List.getElem_cons_succ]
      go_simp
      with_reducible refine (ra_16 _ bs H240.out HQ16.out).mono ?_
      rintro e w66 ⟨rfl, b66⟩
      dsimp only
      replace hz := blk_u hz b66
      replace hm := blk_u hm b66
      replace bs := bs.below b66
      replace rb := rb.below b66
      replace own := owk_under own b66
      replace bo := bo.below b66
      replace bel := bel.trans (b66.mono bel.size)
      clear b66
      refine hK.out _ _ bs (fun hH67 => ?_)
      clear hK K
      refine wpAnyH_ready (rs := [19]) (by kernel_rfl) (by simp) ?_
      refine AllReadyH.cons (o := _) rfl (fun K hK => ?_) AllReadyH.nil
      simp only [List.getElem_toArray, List.getElem_cons_zero, List.getElem_cons_succ]
      go_simp
      with_reducible refine (ra_20 _ bs H240.out HQ20.out).mono ?_
      rintro e w68 ⟨rfl, b68⟩
      dsimp only
      replace hz := blk_u hz b68
      replace hm := blk_u hm b68
      replace bs := bs.below b68
      replace rb := rb.below b68
      replace own := owk_under own b68
      replace bo := bo.below b68
      replace bel := bel.trans (b68.mono bel.size)
      clear b68
      refine hK.out _ _ bs (fun hH69 => ?_)
      clear hK K
      refine wpAnyH_ready (rs := [21]) (by kernel_rfl) (by simp) ?_
      refine AllReadyH.cons (o := _) rfl (fun K hK => ?_) AllReadyH.nil
      simp only [List.getElem_toArray, List.getElem_cons_zero, List.getElem_cons_succ]
      go_simp
      with_reducible refine (ra_24 _ bs H240.out HQ24.out).mono ?_
      rintro e w70 ⟨rfl, b70⟩
      dsimp only
      replace hz := blk_u hz b70
      replace hm := blk_u hm b70
      replace bs := bs.below b70
      replace rb := rb.below b70
      replace own := owk_under own b70
      replace bo := bo.below b70
      replace bel := bel.trans (b70.mono bel.size)
      clear b70
      refine hK.out _ _ bs (fun hH71 => ?_)
      clear hK K
      refine wpAnyH_take (i := 23) (v := ?_) rfl (by kernel_rfl) (by kernel_rfl) (by kernel_rfl) (fun _ _ _ h => h) (Or.inl ⟨by rfl, ?_⟩) hH71 ?_
      rotate_left
      · ((intro W hW; clear hW; go_simp) <;> with_reducible rfl)
      simp only [Act.put, List.getElem_toArray, List.getElem_cons_zero, List.getElem_cons_succ, List.setIfInBounds_toArray, List.set_cons_zero, List.set_cons_succ]
      refine wpAnyH_ready (rs := [25]) (by kernel_rfl) (by simp) ?_
      refine AllReadyH.cons (o := _) rfl (fun K hK => ?_) AllReadyH.nil
      simp only [List.getElem_toArray, List.getElem_cons_zero, List.getElem_cons_succ]
      rw [if_pos (by rfl)]
      refine wp_store_blk 42 (.tmp 6) (.tmp 73) rfl g6 rfl _ rfl _ 42 hm (by rfl) (by kernel_rfl) (by kernel_rfl) ?_
      intro w72 hq gr
      replace bs := bs.away av_bs_m gr
      replace rb := rb.away av_rb_m gr
      replace hz := blk_a hz gr d_z_m
      replace own := (kt_grown gr hm (by simp) : Kt [42] _ _).own own (by decide)
      replace bo := bo.kt (kt_grown gr hm (by simp) : Kt [42] _ _) (by decide)
      replace bel := below_grown bel gr om bel.size
      clear hm
      have hm := hq
      clear hq gr
      refine hK.out _ _ bs (fun hH73 => ?_)
      clear hK K
      simp only [Act.put]
      refine wpAnyH_done (by kernel_rfl) ?_ _
      go_wp2_with fail
      go_meet
      case rel => exact ⟨g6, rfl, hz, hm, om, (ne_symm d_z_m), bs, av_bs_m, av_bs_z, rb, av_rb_m, av_rb_z, own, bo, bel⟩
    simp only [List.getElem_toArray, List.getElem_cons_zero, List.getElem_cons_succ]
    go_simp
    with_reducible refine (ra_12 _ bs H240.out HQ12.out).mono ?_
    rintro e w62 ⟨rfl, b62⟩
    dsimp only
    replace hz := blk_u hz b62
    replace bs := bs.below b62
    replace rb := rb.below b62
    replace own := owk_under own b62
    replace bo := bo.below b62
    replace bel := bel.trans (b62.mono bel.size)
    clear b62
    refine hK.out _ _ bs (fun hH63 => ?_)
    clear hK K
    refine wpAnyH_ready (rs := [17, 24]) (by kernel_rfl) (by simp) ?_
    refine AllReadyH.cons (o := _) rfl (fun K hK => ?_) (AllReadyH.cons (o := _) rfl (fun K hK => ?_) AllReadyH.nil)
    rotate_left
    · simp only [List.getElem_toArray, List.getElem_cons_zero, List.getElem_cons_succ]
      rw [if_pos (by rfl)]
      refine wp_new_a 42 rfl #[.int .i64 0, .int .i64 0, .int .u32 0, .int .i64 0, .int .i64 0, .int .u8 0, .int .u8 0, .int .u8 0, .int .u8 0, .int .u8 0, .int .u8 0, .int .u8 0, .int .u8 0, .int .u8 0, .int .u8 0, .int .u8 0, .int .u8 0, .int .u8 0, .int .u8 0, .int .u8 0, .int .u8 0, .int .u8 0, .int .u8 0, .int .u8 0, .int .u8 0, .int .u8 0, .int .u8 0, .slice none 0 0] (by kernel_rfl) ?_
      intro g6 w64 ge hh bb
      have d_z_m := ne_new (hlt hz) ge
      have av_bs_m := bs.av_new ge
      have av_rb_m := rb.av_new ge
      have om := Nat.le_trans bel.size ge
      replace hz := blk_u hz bb
      replace bs := bs.below bb
      replace rb := rb.below bb
      replace own := owk_under own bb
      replace bo := bo.below bb
      replace bel := bel.trans (bb.mono bel.size)
      have hm := hh
      clear hh ge bb
      refine hK.out _ _ bs (fun hH65 => ?_)
      clear hK K
      simp only [Act.put, List.setIfInBounds_toArray, List.set_cons_zero, List.set_cons_succ]
      refine wpAnyH_ready (rs := [17]) (by kernel_rfl) (by simp) ?_
      refine AllReadyH.cons (o := _) rfl (fun K hK => ?_) AllReadyH.nil
      simp only [List.getElem_toArray, List.getElem_cons_zero, List.getElem_cons_succ]
      go_simp
      with_reducible refine (ra_16 _ bs H240.out HQ16.out).mono ?_
      rintro e w66 ⟨rfl, b66⟩
      dsimp only
      replace hz := blk_u hz b66
      replace hm := blk_u hm b66
      replace bs := bs.below b66
      replace rb := rb.below b66
      replace own := owk_under own b66
      replace bo := bo.below b66
      replace bel := bel.trans (b66.mono bel.size)
      clear b66
      refine hK.out _ _ bs (fun hH67 => ?_)
      clear hK K
      refine wpAnyH_ready (rs := [19]) (by kernel_rfl) (by simp) ?_
      refine AllReadyH.cons (o := _) rfl (fun K hK => ?_) AllReadyH.nil
      simp only [List.getElem_toArray, List.getElem_cons_zero, List.getElem_cons_succ]
      go_simp
      with_reducible refine (ra_20 _ bs H240.out HQ20.out).mono ?_
      rintro e w68 ⟨rfl, b68⟩
      dsimp only
      replace hz := blk_u hz b68
      replace hm := blk_u hm b68
      replace bs := bs.below b68
      replace rb := rb.below b68
      replace own := owk_under own b68
      replace bo := bo.below b68
      replace bel := bel.trans (b68.mono bel.size)
      clear b68
      refine hK.out _ _ bs (fun hH69 => ?_)
      clear hK K
      refine wpAnyH_ready (rs := [21]) (by kernel_rfl) (by simp) ?_
      refine AllReadyH.cons (o := _) rfl (fun K hK => ?_) AllReadyH.nil
      simp only [List.getElem_toArray, List.getElem_cons_zero, List.getElem_cons_succ]
      go_simp
      with_reducible refine (ra_24 _ bs H240.out HQ24.out).mono ?_
      rintro e w70 ⟨rfl, b70⟩
      dsimp only
      replace hz := blk_u hz b70
      replace hm := blk_u hm b70
      replace bs := bs.below b70
      replace rb := rb.below b70
      replace own := owk_under own b70
      replace bo := bo.below b70
      replace bel := bel.trans (b70.mono bel.size)
      clear b70
      refine hK.out _ _ bs (fun hH71 => ?_)
      clear hK K
      refine wpAnyH_take (i := 23) (v := ?_) rfl (by kernel_rfl) (by kernel_rfl) (by kernel_rfl) (fun _ _ _ h => h) (Or.inl ⟨by rfl, ?_⟩) hH71 ?_
      rotate_left
      · ((intro W hW; clear hW; go_simp) <;> with_reducible rfl)
      simp only [Act.put, List.getElem_toArray, List.getElem_cons_zero, List.getElem_cons_succ, List.setIfInBounds_toArray, List.set_cons_zero, List.set_cons_succ]
      refine wpAnyH_ready (rs := [25]) (by kernel_rfl) (by simp) ?_
      refine AllReadyH.cons (o := _) rfl (fun K hK => ?_) AllReadyH.nil
      simp only [List.getElem_toArray, List.getElem_cons_zero, List.getElem_cons_succ]
      rw [if_pos (by rfl)]
      refine wp_store_blk 42 (.tmp 6) (.tmp 73) rfl g6 rfl _ rfl _ 42 hm (by rfl) (by kernel_rfl) (by kernel_rfl) ?_
      intro w72 hq gr
      replace bs := bs.away av_bs_m gr
      replace rb := rb.away av_rb_m gr
      replace hz := blk_a hz gr d_z_m
      replace own := (kt_grown gr hm (by simp) : Kt [42] _ _).own own (by decide)
      replace bo := bo.kt (kt_grown gr hm (by simp) : Kt [42] _ _) (by decide)
      replace bel := below_grown bel gr om bel.size
      clear hm
      have hm := hq
      clear hq gr
      refine hK.out _ _ bs (fun hH73 => ?_)
      clear hK K
      simp only [Act.put]
      refine wpAnyH_done (by kernel_rfl) ?_ _
      go_wp2_with fail
      go_meet
      case rel => exact ⟨g6, rfl, hz, hm, om, (ne_symm d_z_m), bs, av_bs_m, av_bs_z, rb, av_rb_m, av_rb_z, own, bo, bel⟩
    simp only [List.getElem_toArray, List.getElem_cons_zero, List.getElem_cons_succ]
    go_simp
    with_reducible refine (ra_16 _ bs H240.out HQ16.out).mono ?_
    rintro e w64 ⟨rfl, b64⟩
    dsimp only
    replace hz := blk_u hz b64
    replace bs := bs.below b64
    replace rb := rb.below b64
    replace own := owk_under own b64
    replace bo := bo.below b64
    replace bel := bel.trans (b64.mono bel.size)
    clear b64
    refine hK.out _ _ bs (fun hH65 => ?_)
    clear hK K
    refine wpAnyH_ready (rs := [19, 24]) (by kernel_rfl) (by simp) ?_
    refine AllReadyH.cons (o := _) rfl (fun K hK => ?_) (AllReadyH.cons (o := _) rfl (fun K hK => ?_) AllReadyH.nil)
    rotate_left
    · simp only [List.getElem_toArray, List.getElem_cons_zero, List.getElem_cons_succ]
      rw [if_pos (by rfl)]
      refine wp_new_a 42 rfl #[.int .i64 0, .int .i64 0, .int .u32 0, .int .i64 0, .int .i64 0, .int .u8 0, .int .u8 0, .int .u8 0, .int .u8 0, .int .u8 0, .int .u8 0, .int .u8 0, .int .u8 0, .int .u8 0, .int .u8 0, .int .u8 0, .int .u8 0, .int .u8 0, .int .u8 0, .int .u8 0, .int .u8 0, .int .u8 0, .int .u8 0, .int .u8 0, .int .u8 0, .int .u8 0, .int .u8 0, .slice none 0 0] (by kernel_rfl) ?_
      intro g6 w66 ge hh bb
      have d_z_m := ne_new (hlt hz) ge
      have av_bs_m := bs.av_new ge
      have av_rb_m := rb.av_new ge
      have om := Nat.le_trans bel.size ge
      replace hz := blk_u hz bb
      replace bs := bs.below bb
      replace rb := rb.below bb
      replace own := owk_under own bb
      replace bo := bo.below bb
      replace bel := bel.trans (bb.mono bel.size)
      have hm := hh
      clear hh ge bb
      refine hK.out _ _ bs (fun hH67 => ?_)
      clear hK K
      simp only [Act.put, List.setIfInBounds_toArray, List.set_cons_zero, List.set_cons_succ]
      refine wpAnyH_ready (rs := [19]) (by kernel_rfl) (by simp) ?_
      refine AllReadyH.cons (o := _) rfl (fun K hK => ?_) AllReadyH.nil
      simp only [List.getElem_toArray, List.getElem_cons_zero, List.getElem_cons_succ]
      go_simp
      with_reducible refine (ra_20 _ bs H240.out HQ20.out).mono ?_
      rintro e w68 ⟨rfl, b68⟩
      dsimp only
      replace hz := blk_u hz b68
      replace hm := blk_u hm b68
      replace bs := bs.below b68
      replace rb := rb.below b68
      replace own := owk_under own b68
      replace bo := bo.below b68
      replace bel := bel.trans (b68.mono bel.size)
      clear b68
      refine hK.out _ _ bs (fun hH69 => ?_)
      clear hK K
      refine wpAnyH_ready (rs := [21]) (by kernel_rfl) (by simp) ?_
      refine AllReadyH.cons (o := _) rfl (fun K hK => ?_) AllReadyH.nil
      simp only [List.getElem_toArray, List.getElem_cons_zero, List.getElem_cons_succ]
      go_simp
      with_reducible refine (ra_24 _ bs H240.out HQ24.out).mono ?_
      rintro e w70 ⟨rfl, b70⟩
      dsimp only
      replace hz := blk_u hz b70
      replace hm := blk_u hm b70
      replace bs := bs.below b70
      replace rb := rb.below b70
      replace own := owk_under own b70
      replace bo := bo.below b70
      replace bel := bel.trans (b70.mono bel.size)
      clear b70
      refine hK.out _ _ bs (fun hH71 => ?_)
      clear hK K
      refine wpAnyH_take (i := 23) (v := ?_) rfl (by kernel_rfl) (by kernel_rfl) (by kernel_rfl) (fun _ _ _ h => h) (Or.inl ⟨by rfl, ?_⟩) hH71 ?_
      rotate_left
      · ((intro W hW; clear hW; go_simp) <;> with_reducible rfl)
      simp only [Act.put, List.getElem_toArray, List.getElem_cons_zero, List.getElem_cons_succ, List.setIfInBounds_toArray, List.set_cons_zero, List.set_cons_succ]
      refine wpAnyH_ready (rs := [25]) (by kernel_rfl) (by simp) ?_
      refine AllReadyH.cons (o := _) rfl (fun K hK => ?_) AllReadyH.nil
      simp only [List.getElem_toArray, List.getElem_cons_zero, List.getElem_cons_succ]
      rw [if_pos (by rfl)]
      refine wp_store_blk 42 (.tmp 6) (.tmp 73) rfl g6 rfl _ rfl _ 42 hm (by rfl) (by kernel_rfl) (by kernel_rfl) ?_
      intro w72 hq gr
      replace bs := bs.away av_bs_m gr
      replace rb := rb.away av_rb_m gr
      replace hz := blk_a hz gr d_z_m
      replace own := (kt_grown gr hm (by simp) : Kt [42] _ _).own own (by decide)
      replace bo := bo.kt (kt_grown gr hm (by simp) : Kt [42] _ _) (by decide)
      replace bel := below_grown bel gr om bel.size
      clear hm
      have hm := hq
      clear hq gr
      refine hK.out _ _ bs (fun hH73 => ?_)
      clear hK K
      simp only [Act.put]
      refine wpAnyH_done (by kernel_rfl) ?_ _
      go_wp2_with fail
      go_meet
      case rel => exact ⟨g6, rfl, hz, hm, om, (ne_symm d_z_m), bs, av_bs_m, av_bs_z, rb, av_rb_m, av_rb_z, own, bo, bel⟩
    simp only [List.getElem_toArray, List.getElem_cons_zero, List.getElem_cons_succ]
    go_simp
    with_reducible refine (ra_20 _ bs H240.out HQ20.out).mono ?_
    rintro e w66 ⟨rfl, b66⟩
    dsimp only
    replace hz := blk_u hz b66
    replace bs := bs.below b66
    replace rb := rb.below b66
    replace own := owk_under own b66
    replace bo := bo.below b66
    replace bel := bel.trans (b66.mono bel.size)
    clear b66
    refine hK.out _ _ bs (fun hH67 => ?_)
    clear hK K
    refine wpAnyH_ready (rs := [21, 24]) (by kernel_rfl) (by simp) ?_
    refine AllReadyH.cons (o := _) rfl (fun K hK => ?_) (AllReadyH.cons (o := _) rfl (fun K hK => ?_) AllReadyH.nil)
    · simp only [List.getElem_toArray, List.getElem_cons_zero, List.getElem_cons_succ]
      go_simp
      with_reducible refine (ra_24 _ bs H240.out HQ24.out).mono ?_
      rintro e w68 ⟨rfl, b68⟩
      dsimp only
      replace hz := blk_u hz b68
      replace bs := bs.below b68
      replace rb := rb.below b68
      replace own := owk_under own b68
      replace bo := bo.below b68
      replace bel := bel.trans (b68.mono bel.size)
      clear b68
      refine hK.out _ _ bs (fun hH69 => ?_)
      clear hK K
      refine wpAnyH_take (i := 23) (v := ?_) rfl (by kernel_rfl) (by kernel_rfl) (by kernel_rfl) (fun _ _ _ h => h) (Or.inl ⟨by rfl, ?_⟩) hH69 ?_
      rotate_left
      · ((intro W hW; clear hW; go_simp) <;> with_reducible rfl)
      simp only [Act.put, List.getElem_toArray, List.getElem_cons_zero, List.getElem_cons_succ, List.setIfInBounds_toArray, List.set_cons_zero, List.set_cons_succ]
      refine wpAnyH_ready (rs := [24]) (by kernel_rfl) (by simp) ?_
      refine AllReadyH.cons (o := _) rfl (fun K hK => ?_) AllReadyH.nil
      simp only [List.getElem_toArray, List.getElem_cons_zero, List.getElem_cons_succ]
      rw [if_pos (by rfl)]
      refine wp_new_a 42 rfl #[.int .i64 0, .int .i64 0, .int .u32 0, .int .i64 0, .int .i64 0, .int .u8 0, .int .u8 0, .int .u8 0, .int .u8 0, .int .u8 0, .int .u8 0, .int .u8 0, .int .u8 0, .int .u8 0, .int .u8 0, .int .u8 0, .int .u8 0, .int .u8 0, .int .u8 0, .int .u8 0, .int .u8 0, .int .u8 0, .int .u8 0, .int .u8 0, .int .u8 0, .int .u8 0, .int .u8 0, .slice none 0 0] (by kernel_rfl) ?_
      intro g6 w70 ge hh bb
      have d_z_m := ne_new (hlt hz) ge
      have av_bs_m := bs.av_new ge
      have av_rb_m := rb.av_new ge
      have om := Nat.le_trans bel.size ge
      replace hz := blk_u hz bb
      replace bs := bs.below bb
      replace rb := rb.below bb
      replace own := owk_under own bb
      replace bo := bo.below bb
      replace bel := bel.trans (bb.mono bel.size)
      have hm := hh
      clear hh ge bb
      refine hK.out _ _ bs (fun hH71 => ?_)
      clear hK K
      simp only [Act.put, List.setIfInBounds_toArray, List.set_cons_zero, List.set_cons_succ]
      refine wpAnyH_ready (rs := [25]) (by kernel_rfl) (by simp) ?_
      refine AllReadyH.cons (o := _) rfl (fun K hK => ?_) AllReadyH.nil
      simp only [List.getElem_toArray, List.getElem_cons_zero, List.getElem_cons_succ]
      rw [if_pos (by rfl)]
      refine wp_store_blk 42 (.tmp 6) (.tmp 73) rfl g6 rfl _ rfl _ 42 hm (by rfl) (by kernel_rfl) (by kernel_rfl) ?_
      intro w72 hq gr
      replace bs := bs.away av_bs_m gr
      replace rb := rb.away av_rb_m gr
      replace hz := blk_a hz gr d_z_m
      replace own := (kt_grown gr hm (by simp) : Kt [42] _ _).own own (by decide)
      replace bo := bo.kt (kt_grown gr hm (by simp) : Kt [42] _ _) (by decide)
      replace bel := below_grown bel gr om bel.size
      clear hm
      have hm := hq
      clear hq gr
      refine hK.out _ _ bs (fun hH73 => ?_)
      clear hK K
      simp only [Act.put]
      refine wpAnyH_done (by kernel_rfl) ?_ _
      go_wp2_with fail
      go_meet
      case rel => exact ⟨g6, rfl, hz, hm, om, (ne_symm d_z_m), bs, av_bs_m, av_bs_z, rb, av_rb_m, av_rb_z, own, bo, bel⟩
    simp only [List.getElem_toArray, List.getElem_cons_zero, List.getElem_cons_succ]
    rw [if_pos (by rfl)]
    refine wp_new_a 42 rfl #[.int .i64 0, .int .i64 0, .int .u32 0, .int .i64 0, .int .i64 0, .int .u8 0, .int .u8 0, .int .u8 0, .int .u8 0, .int .u8 0, .int .u8 0, .int .u8 0, .int .u8 0, .int .u8 0, .int .u8 0, .int .u8 0, .int .u8 0, .int .u8 0, .int .u8 0, .int .u8 0, .int .u8 0, .int .u8 0, .int .u8 0, .int .u8 0, .int .u8 0, .int .u8 0, .int .u8 0, .slice none 0 0] (by kernel_rfl) ?_
    intro g6 w68 ge hh bb
    have d_z_m := ne_new (hlt hz) ge
    have av_bs_m := bs.av_new ge
    have av_rb_m := rb.av_new ge
    have om := Nat.le_trans bel.size ge
    replace hz := blk_u hz bb
    replace bs := bs.below bb
    replace rb := rb.below bb
    replace own := owk_under own bb
    replace bo := bo.below bb
    replace bel := bel.trans (bb.mono bel.size)
    have hm := hh
    clear hh ge bb
    refine hK.out _ _ bs (fun hH69 => ?_)
    clear hK K
    simp only [Act.put, List.setIfInBounds_toArray, List.set_cons_zero, List.set_cons_succ]
    refine wpAnyH_ready (rs := [21]) (by kernel_rfl) (by simp) ?_
    refine AllReadyH.cons (o := _) rfl (fun K hK => ?_) AllReadyH.nil
    simp only [List.getElem_toArray, List.getElem_cons_zero, List.getElem_cons_succ]
    go_simp
    with_reducible refine (ra_24 _ bs H240.out HQ24.out).mono ?_
    rintro e w70 ⟨rfl, b70⟩
    dsimp only
    replace hz := blk_u hz b70
    replace hm := blk_u hm b70
    replace bs := bs.below b70
    replace rb := rb.below b70
    replace own := owk_under own b70
    replace bo := bo.below b70
    replace bel := bel.trans (b70.mono bel.size)
    clear b70
    refine hK.out _ _ bs (fun hH71 => ?_)
    clear hK K
    refine wpAnyH_take (i := 23) (v := ?_) rfl (by kernel_rfl) (by kernel_rfl) (by kernel_rfl) (fun _ _ _ h => h) (Or.inl ⟨by rfl, ?_⟩) hH71 ?_
    rotate_left
    · ((intro W hW; clear hW; go_simp) <;> with_reducible rfl)
    simp only [Act.put, List.getElem_toArray, List.getElem_cons_zero, List.getElem_cons_succ, List.setIfInBounds_toArray, List.set_cons_zero, List.set_cons_succ]
    refine wpAnyH_ready (rs := [25]) (by kernel_rfl) (by simp) ?_
    refine AllReadyH.cons (o := _) rfl (fun K hK => ?_) AllReadyH.nil
    simp only [List.getElem_toArray, List.getElem_cons_zero, List.getElem_cons_succ]
    rw [if_pos (by rfl)]
    refine wp_store_blk 42 (.tmp 6) (.tmp 73) rfl g6 rfl _ rfl _ 42 hm (by rfl) (by kernel_rfl) (by kernel_rfl) ?_
    intro w72 hq gr
    replace bs := bs.away av_bs_m gr
    replace rb := rb.away av_rb_m gr
    replace hz := blk_a hz gr d_z_m
    replace own := (kt_grown gr hm (by simp) : Kt [42] _ _).own own (by decide)
    replace bo := bo.kt (kt_grown gr hm (by simp) : Kt [42] _ _) (by decide)
    replace bel := below_grown bel gr om bel.size
    clear hm
    have hm := hq
    clear hq gr
    refine hK.out _ _ bs (fun hH73 => ?_)
    clear hK K
    simp only [Act.put]
    refine wpAnyH_done (by kernel_rfl) ?_ _
    go_wp2_with fail
    go_meet
    case rel => exact ⟨g6, rfl, hz, hm, om, (ne_symm d_z_m), bs, av_bs_m, av_bs_z, rb, av_rb_m, av_rb_z, own, bo, bel⟩
  obtain ⟨w74, hw_⟩ : ∃ x, x = wc := ⟨_, rfl⟩
  subst hw_
  obtain ⟨g6, rfl, hz, hm, om, d_m_z, bs, av_bs_m, av_bs_z, rb, av_rb_m, av_rb_z, own, bo, bel⟩ := hcut
  go_wp2_with fail
  refine wp_loop_rounds 7 ?_
  rw [rounds_succ]
  have R83 := sl_at bs (j := 28) rfl
  go_wp2_with (first | ((with_reducible show wpList _ _ _ (⟨none, Op.store _ (.tmp 85) _, _, _, _, _⟩ :: _) _ _); refine wpList_store_part rfl 5 (.tmp 85) (.tmp 83) rfl g6 21 rfl [.int .u8 (x28.toNat : Int)] rfl [.int .i64 (x0.toNat : Int), .int .i64 (x3.toNat : Int), .int .u32 ((be [x4, x5, x6, x7] : Nat) : Int), .int .i64 ((be [x8, x9] : Nat) : Int), .int .i64 ((be [x10, x11] : Nat) : Int), .int .u8 (x12.toNat : Int), .int .u8 (x13.toNat : Int), .int .u8 (x14.toNat : Int), .int .u8 (x15.toNat : Int), .int .u8 (x16.toNat : Int), .int .u8 (x17.toNat : Int), .int .u8 (x18.toNat : Int), .int .u8 (x19.toNat : Int), .int .u8 (x20.toNat : Int), .int .u8 (x21.toNat : Int), .int .u8 (x22.toNat : Int), .int .u8 (x23.toNat : Int), .int .u8 (x24.toNat : Int), .int .u8 (x25.toNat : Int), .int .u8 (x26.toNat : Int), .int .u8 (x27.toNat : Int), .int .u8 0, .int .u8 0, .int .u8 0, .int .u8 0, .int .u8 0, .int .u8 0, .slice A9 n9 c9] 42 hm (by simp) [.int .i64 (x0.toNat : Int), .int .i64 (x3.toNat : Int), .int .u32 ((be [x4, x5, x6, x7] : Nat) : Int), .int .i64 ((be [x8, x9] : Nat) : Int), .int .i64 ((be [x10, x11] : Nat) : Int), .int .u8 (x12.toNat : Int), .int .u8 (x13.toNat : Int), .int .u8 (x14.toNat : Int), .int .u8 (x15.toNat : Int), .int .u8 (x16.toNat : Int), .int .u8 (x17.toNat : Int), .int .u8 (x18.toNat : Int), .int .u8 (x19.toNat : Int), .int .u8 (x20.toNat : Int), .int .u8 (x21.toNat : Int), .int .u8 (x22.toNat : Int), .int .u8 (x23.toNat : Int), .int .u8 (x24.toNat : Int), .int .u8 (x25.toNat : Int), .int .u8 (x26.toNat : Int), .int .u8 (x27.toNat : Int), .int .u8 (x28.toNat : Int), .int .u8 0, .int .u8 0, .int .u8 0, .int .u8 0, .int .u8 0, .slice A9 n9 c9] rfl (by kernel_rfl) (by rfl) ?_; intro w75 hq gr; replace bs := bs.away av_bs_m gr; replace rb := rb.away av_rb_m gr; replace hz := blk_a hz gr (ne_symm d_m_z); replace own := (kt_grown gr hm (by simp) : Kt [42] _ _).own own (by decide); replace bo := bo.kt (kt_grown gr hm (by simp) : Kt [42] _ _) (by decide); replace bel := below_grown bel gr om bel.size; clear hm; have hm := hq; clear hq gr))
  try clear R83
  rw [rounds_succ]
  have R83 := sl_at bs (j := 29) rfl
  go_wp2_with (first | ((with_reducible show wpList _ _ _ (⟨none, Op.store _ (.tmp 85) _, _, _, _, _⟩ :: _) _ _); refine wpList_store_part rfl 5 (.tmp 85) (.tmp 83) rfl g6 22 rfl [.int .u8 (x29.toNat : Int)] rfl [.int .i64 (x0.toNat : Int), .int .i64 (x3.toNat : Int), .int .u32 ((be [x4, x5, x6, x7] : Nat) : Int), .int .i64 ((be [x8, x9] : Nat) : Int), .int .i64 ((be [x10, x11] : Nat) : Int), .int .u8 (x12.toNat : Int), .int .u8 (x13.toNat : Int), .int .u8 (x14.toNat : Int), .int .u8 (x15.toNat : Int), .int .u8 (x16.toNat : Int), .int .u8 (x17.toNat : Int), .int .u8 (x18.toNat : Int), .int .u8 (x19.toNat : Int), .int .u8 (x20.toNat : Int), .int .u8 (x21.toNat : Int), .int .u8 (x22.toNat : Int), .int .u8 (x23.toNat : Int), .int .u8 (x24.toNat : Int), .int .u8 (x25.toNat : Int), .int .u8 (x26.toNat : Int), .int .u8 (x27.toNat : Int), .int .u8 (x28.toNat : Int), .int .u8 0, .int .u8 0, .int .u8 0, .int .u8 0, .int .u8 0, .slice A9 n9 c9] 42 hm (by simp) [.int .i64 (x0.toNat : Int), .int .i64 (x3.toNat : Int), .int .u32 ((be [x4, x5, x6, x7] : Nat) : Int), .int .i64 ((be [x8, x9] : Nat) : Int), .int .i64 ((be [x10, x11] : Nat) : Int), .int .u8 (x12.toNat : Int), .int .u8 (x13.toNat : Int), .int .u8 (x14.toNat : Int), .int .u8 (x15.toNat : Int), .int .u8 (x16.toNat : Int), .int .u8 (x17.toNat : Int), .int .u8 (x18.toNat : Int), .int .u8 (x19.toNat : Int), .int .u8 (x20.toNat : Int), .int .u8 (x21.toNat : Int), .int .u8 (x22.toNat : Int), .int .u8 (x23.toNat : Int), .int .u8 (x24.toNat : Int), .int .u8 (x25.toNat : Int), .int .u8 (x26.toNat : Int), .int .u8 (x27.toNat : Int), .int .u8 (x28.toNat : Int), .int .u8 (x29.toNat : Int), .int .u8 0, .int .u8 0, .int .u8 0, .int .u8 0, .slice A9 n9 c9] rfl (by kernel_rfl) (by rfl) ?_; intro w76 hq gr; replace bs := bs.away av_bs_m gr; replace rb := rb.away av_rb_m gr; replace hz := blk_a hz gr (ne_symm d_m_z); replace own := (kt_grown gr hm (by simp) : Kt [42] _ _).own own (by decide); replace bo := bo.kt (kt_grown gr hm (by simp) : Kt [42] _ _) (by decide); replace bel := below_grown bel gr om bel.size; clear hm; have hm := hq; clear hq gr))
  try clear R83
  rw [rounds_succ]
  have R83 := sl_at bs (j := 30) rfl
  go_wp2_with (first | ((with_reducible show wpList _ _ _ (⟨none, Op.store _ (.tmp 85) _, _, _, _, _⟩ :: _) _ _); refine wpList_store_part rfl 5 (.tmp 85) (.tmp 83) rfl g6 23 rfl [.int .u8 (x30.toNat : Int)] rfl [.int .i64 (x0.toNat : Int), .int .i64 (x3.toNat : Int), .int .u32 ((be [x4, x5, x6, x7] : Nat) : Int), .int .i64 ((be [x8, x9] : Nat) : Int), .int .i64 ((be [x10, x11] : Nat) : Int), .int .u8 (x12.toNat : Int), .int .u8 (x13.toNat : Int), .int .u8 (x14.toNat : Int), .int .u8 (x15.toNat : Int), .int .u8 (x16.toNat : Int), .int .u8 (x17.toNat : Int), .int .u8 (x18.toNat : Int), .int .u8 (x19.toNat : Int), .int .u8 (x20.toNat : Int), .int .u8 (x21.toNat : Int), .int .u8 (x22.toNat : Int), .int .u8 (x23.toNat : Int), .int .u8 (x24.toNat : Int), .int .u8 (x25.toNat : Int), .int .u8 (x26.toNat : Int), .int .u8 (x27.toNat : Int), .int .u8 (x28.toNat : Int), .int .u8 (x29.toNat : Int), .int .u8 0, .int .u8 0, .int .u8 0, .int .u8 0, .slice A9 n9 c9] 42 hm (by simp) [.int .i64 (x0.toNat : Int), .int .i64 (x3.toNat : Int), .int .u32 ((be [x4, x5, x6, x7] : Nat) : Int), .int .i64 ((be [x8, x9] : Nat) : Int), .int .i64 ((be [x10, x11] : Nat) : Int), .int .u8 (x12.toNat : Int), .int .u8 (x13.toNat : Int), .int .u8 (x14.toNat : Int), .int .u8 (x15.toNat : Int), .int .u8 (x16.toNat : Int), .int .u8 (x17.toNat : Int), .int .u8 (x18.toNat : Int), .int .u8 (x19.toNat : Int), .int .u8 (x20.toNat : Int), .int .u8 (x21.toNat : Int), .int .u8 (x22.toNat : Int), .int .u8 (x23.toNat : Int), .int .u8 (x24.toNat : Int), .int .u8 (x25.toNat : Int), .int .u8 (x26.toNat : Int), .int .u8 (x27.toNat : Int), .int .u8 (x28.toNat : Int), .int .u8 (x29.toNat : Int), .int .u8 (x30.toNat : Int), .int .u8 0, .int .u8 0, .int .u8 0, .slice A9 n9 c9] rfl (by kernel_rfl) (by rfl) ?_; intro w77 hq gr; replace bs := bs.away av_bs_m gr; replace rb := rb.away av_rb_m gr; replace hz := blk_a hz gr (ne_symm d_m_z); replace own := (kt_grown gr hm (by simp) : Kt [42] _ _).own own (by decide); replace bo := bo.kt (kt_grown gr hm (by simp) : Kt [42] _ _) (by decide); replace bel := below_grown bel gr om bel.size; clear hm; have hm := hq; clear hq gr))
  try clear R83
  rw [rounds_succ]
  have R83 := sl_at bs (j := 31) rfl
  go_wp2_with (first | ((with_reducible show wpList _ _ _ (⟨none, Op.store _ (.tmp 85) _, _, _, _, _⟩ :: _) _ _); refine wpList_store_part rfl 5 (.tmp 85) (.tmp 83) rfl g6 24 rfl [.int .u8 (x31.toNat : Int)] rfl [.int .i64 (x0.toNat : Int), .int .i64 (x3.toNat : Int), .int .u32 ((be [x4, x5, x6, x7] : Nat) : Int), .int .i64 ((be [x8, x9] : Nat) : Int), .int .i64 ((be [x10, x11] : Nat) : Int), .int .u8 (x12.toNat : Int), .int .u8 (x13.toNat : Int), .int .u8 (x14.toNat : Int), .int .u8 (x15.toNat : Int), .int .u8 (x16.toNat : Int), .int .u8 (x17.toNat : Int), .int .u8 (x18.toNat : Int), .int .u8 (x19.toNat : Int), .int .u8 (x20.toNat : Int), .int .u8 (x21.toNat : Int), .int .u8 (x22.toNat : Int), .int .u8 (x23.toNat : Int), .int .u8 (x24.toNat : Int), .int .u8 (x25.toNat : Int), .int .u8 (x26.toNat : Int), .int .u8 (x27.toNat : Int), .int .u8 (x28.toNat : Int), .int .u8 (x29.toNat : Int), .int .u8 (x30.toNat : Int), .int .u8 0, .int .u8 0, .int .u8 0, .slice A9 n9 c9] 42 hm (by simp) [.int .i64 (x0.toNat : Int), .int .i64 (x3.toNat : Int), .int .u32 ((be [x4, x5, x6, x7] : Nat) : Int), .int .i64 ((be [x8, x9] : Nat) : Int), .int .i64 ((be [x10, x11] : Nat) : Int), .int .u8 (x12.toNat : Int), .int .u8 (x13.toNat : Int), .int .u8 (x14.toNat : Int), .int .u8 (x15.toNat : Int), .int .u8 (x16.toNat : Int), .int .u8 (x17.toNat : Int), .int .u8 (x18.toNat : Int), .int .u8 (x19.toNat : Int), .int .u8 (x20.toNat : Int), .int .u8 (x21.toNat : Int), .int .u8 (x22.toNat : Int), .int .u8 (x23.toNat : Int), .int .u8 (x24.toNat : Int), .int .u8 (x25.toNat : Int), .int .u8 (x26.toNat : Int), .int .u8 (x27.toNat : Int), .int .u8 (x28.toNat : Int), .int .u8 (x29.toNat : Int), .int .u8 (x30.toNat : Int), .int .u8 (x31.toNat : Int), .int .u8 0, .int .u8 0, .slice A9 n9 c9] rfl (by kernel_rfl) (by rfl) ?_; intro w78 hq gr; replace bs := bs.away av_bs_m gr; replace rb := rb.away av_rb_m gr; replace hz := blk_a hz gr (ne_symm d_m_z); replace own := (kt_grown gr hm (by simp) : Kt [42] _ _).own own (by decide); replace bo := bo.kt (kt_grown gr hm (by simp) : Kt [42] _ _) (by decide); replace bel := below_grown bel gr om bel.size; clear hm; have hm := hq; clear hq gr))
  try clear R83
  rw [rounds_succ]
  have R83 := sl_at bs (j := 32) rfl
  go_wp2_with (first | ((with_reducible show wpList _ _ _ (⟨none, Op.store _ (.tmp 85) _, _, _, _, _⟩ :: _) _ _); refine wpList_store_part rfl 5 (.tmp 85) (.tmp 83) rfl g6 25 rfl [.int .u8 (x32.toNat : Int)] rfl [.int .i64 (x0.toNat : Int), .int .i64 (x3.toNat : Int), .int .u32 ((be [x4, x5, x6, x7] : Nat) : Int), .int .i64 ((be [x8, x9] : Nat) : Int), .int .i64 ((be [x10, x11] : Nat) : Int), .int .u8 (x12.toNat : Int), .int .u8 (x13.toNat : Int), .int .u8 (x14.toNat : Int), .int .u8 (x15.toNat : Int), .int .u8 (x16.toNat : Int), .int .u8 (x17.toNat : Int), .int .u8 (x18.toNat : Int), .int .u8 (x19.toNat : Int), .int .u8 (x20.toNat : Int), .int .u8 (x21.toNat : Int), .int .u8 (x22.toNat : Int), .int .u8 (x23.toNat : Int), .int .u8 (x24.toNat : Int), .int .u8 (x25.toNat : Int), .int .u8 (x26.toNat : Int), .int .u8 (x27.toNat : Int), .int .u8 (x28.toNat : Int), .int .u8 (x29.toNat : Int), .int .u8 (x30.toNat : Int), .int .u8 (x31.toNat : Int), .int .u8 0, .int .u8 0, .slice A9 n9 c9] 42 hm (by simp) [.int .i64 (x0.toNat : Int), .int .i64 (x3.toNat : Int), .int .u32 ((be [x4, x5, x6, x7] : Nat) : Int), .int .i64 ((be [x8, x9] : Nat) : Int), .int .i64 ((be [x10, x11] : Nat) : Int), .int .u8 (x12.toNat : Int), .int .u8 (x13.toNat : Int), .int .u8 (x14.toNat : Int), .int .u8 (x15.toNat : Int), .int .u8 (x16.toNat : Int), .int .u8 (x17.toNat : Int), .int .u8 (x18.toNat : Int), .int .u8 (x19.toNat : Int), .int .u8 (x20.toNat : Int), .int .u8 (x21.toNat : Int), .int .u8 (x22.toNat : Int), .int .u8 (x23.toNat : Int), .int .u8 (x24.toNat : Int), .int .u8 (x25.toNat : Int), .int .u8 (x26.toNat : Int), .int .u8 (x27.toNat : Int), .int .u8 (x28.toNat : Int), .int .u8 (x29.toNat : Int), .int .u8 (x30.toNat : Int), .int .u8 (x31.toNat : Int), .int .u8 (x32.toNat : Int), .int .u8 0, .slice A9 n9 c9] rfl (by kernel_rfl) (by rfl) ?_; intro w79 hq gr; replace bs := bs.away av_bs_m gr; replace rb := rb.away av_rb_m gr; replace hz := blk_a hz gr (ne_symm d_m_z); replace own := (kt_grown gr hm (by simp) : Kt [42] _ _).own own (by decide); replace bo := bo.kt (kt_grown gr hm (by simp) : Kt [42] _ _) (by decide); replace bel := below_grown bel gr om bel.size; clear hm; have hm := hq; clear hq gr))
  try clear R83
  rw [rounds_succ]
  have R83 := sl_at bs (j := 33) rfl
  go_wp2_with (first | ((with_reducible show wpList _ _ _ (⟨none, Op.store _ (.tmp 85) _, _, _, _, _⟩ :: _) _ _); refine wpList_store_part rfl 5 (.tmp 85) (.tmp 83) rfl g6 26 rfl [.int .u8 (x33.toNat : Int)] rfl [.int .i64 (x0.toNat : Int), .int .i64 (x3.toNat : Int), .int .u32 ((be [x4, x5, x6, x7] : Nat) : Int), .int .i64 ((be [x8, x9] : Nat) : Int), .int .i64 ((be [x10, x11] : Nat) : Int), .int .u8 (x12.toNat : Int), .int .u8 (x13.toNat : Int), .int .u8 (x14.toNat : Int), .int .u8 (x15.toNat : Int), .int .u8 (x16.toNat : Int), .int .u8 (x17.toNat : Int), .int .u8 (x18.toNat : Int), .int .u8 (x19.toNat : Int), .int .u8 (x20.toNat : Int), .int .u8 (x21.toNat : Int), .int .u8 (x22.toNat : Int), .int .u8 (x23.toNat : Int), .int .u8 (x24.toNat : Int), .int .u8 (x25.toNat : Int), .int .u8 (x26.toNat : Int), .int .u8 (x27.toNat : Int), .int .u8 (x28.toNat : Int), .int .u8 (x29.toNat : Int), .int .u8 (x30.toNat : Int), .int .u8 (x31.toNat : Int), .int .u8 (x32.toNat : Int), .int .u8 0, .slice A9 n9 c9] 42 hm (by simp) [.int .i64 (x0.toNat : Int), .int .i64 (x3.toNat : Int), .int .u32 ((be [x4, x5, x6, x7] : Nat) : Int), .int .i64 ((be [x8, x9] : Nat) : Int), .int .i64 ((be [x10, x11] : Nat) : Int), .int .u8 (x12.toNat : Int), .int .u8 (x13.toNat : Int), .int .u8 (x14.toNat : Int), .int .u8 (x15.toNat : Int), .int .u8 (x16.toNat : Int), .int .u8 (x17.toNat : Int), .int .u8 (x18.toNat : Int), .int .u8 (x19.toNat : Int), .int .u8 (x20.toNat : Int), .int .u8 (x21.toNat : Int), .int .u8 (x22.toNat : Int), .int .u8 (x23.toNat : Int), .int .u8 (x24.toNat : Int), .int .u8 (x25.toNat : Int), .int .u8 (x26.toNat : Int), .int .u8 (x27.toNat : Int), .int .u8 (x28.toNat : Int), .int .u8 (x29.toNat : Int), .int .u8 (x30.toNat : Int), .int .u8 (x31.toNat : Int), .int .u8 (x32.toNat : Int), .int .u8 (x33.toNat : Int), .slice A9 n9 c9] rfl (by kernel_rfl) (by rfl) ?_; intro w80 hq gr; replace bs := bs.away av_bs_m gr; replace rb := rb.away av_rb_m gr; replace hz := blk_a hz gr (ne_symm d_m_z); replace own := (kt_grown gr hm (by simp) : Kt [42] _ _).own own (by decide); replace bo := bo.kt (kt_grown gr hm (by simp) : Kt [42] _ _) (by decide); replace bel := below_grown bel gr om bel.size; clear hm; have hm := hq; clear hq gr))
  try clear R83
  rw [rounds_succ]
  have R86 := Lib.hid (range_lit hm 0 28 [.int .i64 (x0.toNat : Int), .int .i64 (x3.toNat : Int), .int .u32 ((be [x4, x5, x6, x7] : Nat) : Int), .int .i64 ((be [x8, x9] : Nat) : Int), .int .i64 ((be [x10, x11] : Nat) : Int), .int .u8 (x12.toNat : Int), .int .u8 (x13.toNat : Int), .int .u8 (x14.toNat : Int), .int .u8 (x15.toNat : Int), .int .u8 (x16.toNat : Int), .int .u8 (x17.toNat : Int), .int .u8 (x18.toNat : Int), .int .u8 (x19.toNat : Int), .int .u8 (x20.toNat : Int), .int .u8 (x21.toNat : Int), .int .u8 (x22.toNat : Int), .int .u8 (x23.toNat : Int), .int .u8 (x24.toNat : Int), .int .u8 (x25.toNat : Int), .int .u8 (x26.toNat : Int), .int .u8 (x27.toNat : Int), .int .u8 (x28.toNat : Int), .int .u8 (x29.toNat : Int), .int .u8 (x30.toNat : Int), .int .u8 (x31.toNat : Int), .int .u8 (x32.toNat : Int), .int .u8 (x33.toNat : Int), .slice A9 n9 c9] rfl)
  go_wp2_with (first | ((with_reducible show wpList _ _ _ (⟨some 86, _, _, _, _, _⟩ :: _) _ _); refine wpList_load_rng 42 (.tmp 6) rfl (by kernel_rfl) _ _ rfl _ R86.out _ Try.underlying42 rfl (by kernel_rfl) ?_))
  try clear R86
  with_reducible refine (rtype_any (h := ⟨(x0.toNat : Int), (x3.toNat : Int), ((be [x4, x5, x6, x7] : Nat) : Int), ((be [x8, x9] : Nat) : Int), ((be [x10, x11] : Nat) : Int), x12, x13, x14, x15, x16, x17, x18, x19, x20, x21, x22, x23, x24, x25, x26, x27, x28, x29, x30, x31, x32, x33⟩) _ (owk_sle (by decide) opE_len own).1 bo.bd HN9.out).mono ?_
  rintro e w81 ⟨rfl, b81⟩
  replace hz := blk_u hz b81
  replace hm := blk_u hm b81
  replace bs := bs.below b81
  replace rb := rb.below b81
  replace own := owk_under own b81
  replace bo := bo.below b81
  replace bel := bel.trans (b81.mono bel.size)
  clear b81
  rw [HTT.out]
  by_cases ht : tt = 0
  · have e0 : ((tt : Int) == 0) = true := by rw [ht]; rfl
    have HP : Hid (dGet (x0 :: x1 :: x2 :: x3 :: x4 :: x5 :: x6 :: x7 :: x8 :: x9 :: x10 :: x11 :: x12 :: x13 :: x14 :: x15 :: x16 :: x17 :: x18 :: x19 :: x20 :: x21 :: x22 :: x23 :: x24 :: x25 :: x26 :: x27 :: x28 :: x29 :: x30 :: x31 :: x32 :: x33 :: (u ++ k0 :: k1 :: k2 :: k3 :: r)) = ((Mh.zero, []), 4)) := Lib.hid (dget_type HLEN.out HOKT.out HQ2.out (by rw [HTY.out]; exact ht))
    clear ht
    go_wp2_with (first | ((with_reducible show wpList _ _ _ (⟨none, Op.store _ (.tmp 2) _, _, _, _, _⟩ :: _) _ _); refine wpList_store_blk rfl 42 (.tmp 2) (.tmp 89) rfl g2 rfl _ rfl _ 42 hz (by rfl) (by kernel_rfl) (by kernel_rfl) ?_; intro w82 hq gr; replace bs := bs.away av_bs_z gr; replace rb := rb.away av_rb_z gr; replace hm := blk_a hm gr d_m_z; replace own := (kt_grown gr hz (by simp) : Kt [42] _ _).own own (by decide); replace bo := bo.kt (kt_grown gr hz (by simp) : Kt [42] _ _) (by decide); replace bel := below_grown bel gr oz bel.size; clear hz; have hz := hq; clear hq gr))
    exact bodyPost_ret (results_cell_tmp_row rfl _ _ _ _ _ _ _ rfl hz Try.underlying42 rfl (by kernel_rfl) (.int .i64 4) rfl) rfl ⟨Mh.zero, none, 0, 0, [], by rw [HP.out]; rfl, by rw [HP.out], by rw [HP.out]; exact ⟨Sle.nil (by decide) opE_len _, Bd.nil _⟩, Nat.zero_le _, (fun x h => by cases h), bel⟩
  have e0 : ((tt : Int) == 0) = false := beq_eq_false_iff_ne.2 (by omega)
  have HP : Hid (dGet (x0 :: x1 :: x2 :: x3 :: x4 :: x5 :: x6 :: x7 :: x8 :: x9 :: x10 :: x11 :: x12 :: x13 :: x14 :: x15 :: x16 :: x17 :: x18 :: x19 :: x20 :: x21 :: x22 :: x23 :: x24 :: x25 :: x26 :: x27 :: x28 :: x29 :: x30 :: x31 :: x32 :: x33 :: (u ++ k0 :: k1 :: k2 :: k3 :: r)) = ((hdL (x0 :: x1 :: x2 :: x3 :: x4 :: x5 :: x6 :: x7 :: x8 :: x9 :: x10 :: x11 :: x12 :: x13 :: x14 :: x15 :: x16 :: x17 :: x18 :: x19 :: x20 :: x21 :: x22 :: x23 :: x24 :: x25 :: x26 :: x27 :: x28 :: x29 :: x30 :: x31 :: x32 :: x33 :: (u ++ k0 :: k1 :: k2 :: k3 :: r)), L0), 0)) := Lib.hid (dget_ok HLEN.out HOKT.out HQ2.out (by rw [HTY.out]; exact ht))
  clear ht
  have R90 := Lib.hid (range_lit hm 0 28 [.int .i64 (x0.toNat : Int), .int .i64 (x3.toNat : Int), .int .u32 ((be [x4, x5, x6, x7] : Nat) : Int), .int .i64 ((be [x8, x9] : Nat) : Int), .int .i64 ((be [x10, x11] : Nat) : Int), .int .u8 (x12.toNat : Int), .int .u8 (x13.toNat : Int), .int .u8 (x14.toNat : Int), .int .u8 (x15.toNat : Int), .int .u8 (x16.toNat : Int), .int .u8 (x17.toNat : Int), .int .u8 (x18.toNat : Int), .int .u8 (x19.toNat : Int), .int .u8 (x20.toNat : Int), .int .u8 (x21.toNat : Int), .int .u8 (x22.toNat : Int), .int .u8 (x23.toNat : Int), .int .u8 (x24.toNat : Int), .int .u8 (x25.toNat : Int), .int .u8 (x26.toNat : Int), .int .u8 (x27.toNat : Int), .int .u8 (x28.toNat : Int), .int .u8 (x29.toNat : Int), .int .u8 (x30.toNat : Int), .int .u8 (x31.toNat : Int), .int .u8 (x32.toNat : Int), .int .u8 (x33.toNat : Int), .slice A9 n9 c9] rfl)
  go_wp2_with (first | ((with_reducible show wpList _ _ _ (⟨some 90, _, _, _, _, _⟩ :: _) _ _); refine wpList_load_rng 42 (.tmp 6) rfl (by kernel_rfl) _ _ rfl _ R90.out _ Try.underlying42 rfl (by kernel_rfl) ?_) | ((with_reducible show wpList _ _ _ (⟨none, Op.store _ (.tmp 2) _, _, _, _, _⟩ :: _) _ _); refine wpList_store_blk rfl 42 (.tmp 2) (.tmp 90) rfl g2 rfl _ rfl _ 42 hz (by rfl) (by kernel_rfl) (by kernel_rfl) ?_; intro w82 hq gr; replace bs := bs.away av_bs_z gr; replace rb := rb.away av_rb_z gr; replace hm := blk_a hm gr d_m_z; replace own := (kt_grown gr hz (by simp) : Kt [42] _ _).own own (by decide); replace bo := bo.kt (kt_grown gr hz (by simp) : Kt [42] _ _) (by decide); replace bel := below_grown bel gr oz bel.size; clear hz; have hz := hq; clear hq gr))
  try clear R90
  exact bodyPost_ret (results_cell_tmp_row rfl _ _ _ _ _ _ _ rfl hz Try.underlying42 rfl (by kernel_rfl) (.int .i64 0) rfl) rfl ⟨⟨(x0.toNat : Int), (x3.toNat : Int), ((be [x4, x5, x6, x7] : Nat) : Int), ((be [x8, x9] : Nat) : Int), ((be [x10, x11] : Nat) : Int), x12, x13, x14, x15, x16, x17, x18, x19, x20, x21, x22, x23, x24, x25, x26, x27, x28, x29, x30, x31, x32, x33⟩, A9, n9, c9, hs9, by rw [HP.out], by rw [HP.out, HL.out], by rw [HP.out]; exact ⟨(owk_sle (by decide) opE_len own).1, bo.bd⟩, HN9.out, HB9.out, bel⟩
set_option linter.unusedVariables false in
set_option linter.unusedSimpArgs false in
set_option maxRecDepth 100000 in
set_option maxHeartbeats 16000000 in
theorem rget13_short {A : Option Addr} {n c : Nat} {l : List UInt8} (w : World) (bs : Sl w A n c l) (hs : n < 240) : Calls Try.prog 11 #[.slice A n c] w fun e w' => ∃ h A' n' c' hs, e = .returned (.tuple #[.agg #[.int .i64 h.op, .int .i64 h.hops, .int .u32 h.xid, .int .i64 h.secs, .int .i64 h.flags, .int .u8 (h.c0.toNat : Int), .int .u8 (h.c1.toNat : Int), .int .u8 (h.c2.toNat : Int), .int .u8 (h.c3.toNat : Int), .int .u8 (h.y0.toNat : Int), .int .u8 (h.y1.toNat : Int), .int .u8 (h.y2.toNat : Int), .int .u8 (h.y3.toNat : Int), .int .u8 (h.s0.toNat : Int), .int .u8 (h.s1.toNat : Int), .int .u8 (h.s2.toNat : Int), .int .u8 (h.s3.toNat : Int), .int .u8 (h.r0.toNat : Int), .int .u8 (h.r1.toNat : Int), .int .u8 (h.r2.toNat : Int), .int .u8 (h.r3.toNat : Int), .int .u8 (h.m0.toNat : Int), .int .u8 (h.m1.toNat : Int), .int .u8 (h.m2.toNat : Int), .int .u8 (h.m3.toNat : Int), .int .u8 (h.m4.toNat : Int), .int .u8 (h.m5.toNat : Int), .slice A' n' c'], .int .i64 (dGet (l)).2]) ∧ h = (dGet (l)).1.1 ∧ (Sle opE 2 w' A' n' c' hs ∧ Bd w' hs (dGet (l)).1.2) ∧ n' ≤ 100000 ∧ (∀ x ∈ hs, x.n ≤ 100000) ∧ Below w.heap.size w w' := by
  have h240 : (n : Int) < 240 := by omega
  have HP : Hid (dGet l = ((Mh.zero, []), 3)) := Lib.hid (dget_short (by rw [bs.1]; exact hs))
  clear hs
  have bel := Below.refl w.heap.size w
  go_enter Try.func11, Try.ntmps11
  go_wp2_with (first | ((with_reducible show wpList _ _ _ (⟨some 2, _, _, _, _, _⟩ :: _) _ _); refine wpList_new_a rfl 42 rfl #[.int .i64 0, .int .i64 0, .int .u32 0, .int .i64 0, .int .i64 0, .int .u8 0, .int .u8 0, .int .u8 0, .int .u8 0, .int .u8 0, .int .u8 0, .int .u8 0, .int .u8 0, .int .u8 0, .int .u8 0, .int .u8 0, .int .u8 0, .int .u8 0, .int .u8 0, .int .u8 0, .int .u8 0, .int .u8 0, .int .u8 0, .int .u8 0, .int .u8 0, .int .u8 0, .int .u8 0, .slice none 0 0] (by kernel_rfl) ?_; intro g2 w1 ge hh bb; have av_bs_z := bs.av_new ge; have oz := Nat.le_trans bel.size ge; replace bs := bs.below bb; replace bel := bel.trans (bb.mono bel.size); have hz := hh; clear hh ge bb) | ((with_reducible show wpList _ _ _ (⟨none, Op.store _ (.tmp 2) _, _, _, _, _⟩ :: _) _ _); refine wpList_store_blk rfl 42 (.tmp 2) (.tmp 11) rfl g2 rfl _ rfl _ 42 hz (by rfl) (by kernel_rfl) (by kernel_rfl) ?_; intro w2 hq gr; replace bs := bs.away av_bs_z gr; replace bel := below_grown bel gr oz bel.size; clear hz; have hz := hq; clear hq gr))
  exact bodyPost_ret (results_cell_tmp_row rfl _ _ _ _ _ _ _ rfl hz Try.underlying42 rfl (by kernel_rfl) (.int .i64 3) rfl) rfl ⟨Mh.zero, none, 0, 0, [], by rw [HP.out]; rfl, by rw [HP.out], by rw [HP.out]; exact ⟨Sle.nil (by decide) opE_len _, Bd.nil _⟩, Nat.zero_le _, (fun x h => by cases h), bel⟩
theorem rget13_any {A : Option Addr} {n c : Nat} {l : List UInt8} (w : World) (bs : Sl w A n c l) (hn : n ≤ 100000) : Calls Try.prog 11 #[.slice A n c] w fun e w' => ∃ h A' n' c' hs, e = .returned (.tuple #[.agg #[.int .i64 h.op, .int .i64 h.hops, .int .u32 h.xid, .int .i64 h.secs, .int .i64 h.flags, .int .u8 (h.c0.toNat : Int), .int .u8 (h.c1.toNat : Int), .int .u8 (h.c2.toNat : Int), .int .u8 (h.c3.toNat : Int), .int .u8 (h.y0.toNat : Int), .int .u8 (h.y1.toNat : Int), .int .u8 (h.y2.toNat : Int), .int .u8 (h.y3.toNat : Int), .int .u8 (h.s0.toNat : Int), .int .u8 (h.s1.toNat : Int), .int .u8 (h.s2.toNat : Int), .int .u8 (h.s3.toNat : Int), .int .u8 (h.r0.toNat : Int), .int .u8 (h.r1.toNat : Int), .int .u8 (h.r2.toNat : Int), .int .u8 (h.r3.toNat : Int), .int .u8 (h.m0.toNat : Int), .int .u8 (h.m1.toNat : Int), .int .u8 (h.m2.toNat : Int), .int .u8 (h.m3.toNat : Int), .int .u8 (h.m4.toNat : Int), .int .u8 (h.m5.toNat : Int), .slice A' n' c'], .int .i64 (dGet (l)).2]) ∧ h = (dGet (l)).1.1 ∧ (Sle opE 2 w' A' n' c' hs ∧ Bd w' hs (dGet (l)).1.2) ∧ n' ≤ 100000 ∧ (∀ x ∈ hs, x.n ≤ 100000) ∧ Below w.heap.size w w' := by
  by_cases hs : n < 240
  · exact rget13_short w bs hs
  · obtain ⟨gb, ob, rfl⟩ := Sl.spot bs (by omega)
    obtain ⟨x0, x1, x2, x3, x4, x5, x6, x7, x8, x9, x10, x11, x12, x13, x14, x15, x16, x17, x18, x19, x20, x21, x22, x23, x24, x25, x26, x27, x28, x29, x30, x31, x32, x33, k0, k1, k2, k3, u, r, hu, rfl⟩ := list_head (l := l) (by have := bs.1; omega)
    exact rget13_long w bs hu hn (by omega)
end Go.Proofs.Ytmljgpefbbifmaa
