/- Layer 6: addr's Num and Of; ip4's pairAt, sizes. -/
import Derived.Test.YtfmllopeeiecjaaIpl
import Derived.Laws.ResultCell
namespace Go.Proofs.Ytfmllopeeiecjaa
open Go.RowKit

theorem ret_k {k : IntKind} {a b : Int} (h : a = b) : Ending.returned (.int k a) = .returned (.int k b) := by rw [h]
theorem idx4 (x0 x1 x2 x3 : Value) (W : World) : (Instr.index 24 (.agg #[x0, x1, x2, x3]) (.int .i64 0)).run Try.prog W = .ok x0 W ∧ (Instr.index 24 (.agg #[x0, x1, x2, x3]) (.int .i64 1)).run Try.prog W = .ok x1 W ∧
    (Instr.index 24 (.agg #[x0, x1, x2, x3]) (.int .i64 2)).run Try.prog W = .ok x2 W ∧ (Instr.index 24 (.agg #[x0, x1, x2, x3]) (.int .i64 3)).run Try.prog W = .ok x3 W := by
  simp [Instr.index, run_underlying Try.underlying24, asIntOf, go_sem]

set_option maxRecDepth 100000 in
set_option maxHeartbeats 1000000 in
theorem anum_any (a b c d : UInt8) (w : World) : Calls Try.prog 68 #[.agg #[.int .u8 (a.toNat : Int), .int .u8 (b.toNat : Int), .int .u8 (c.toNat : Int), .int .u8 (d.toNat : Int)]] w fun e w' => e = .returned (.int .u32 (be [a, b, c, d])) ∧ Below w.heap.size w w' := by
  have bel := (Below.refl w.heap.size w).alloc (Nat.le_refl _) (.cells #[.int .u8 (a.toNat : Int), .int .u8 (b.toNat : Int), .int .u8 (c.toNat : Int), .int .u8 (d.toNat : Int)] 24)
  have i0 := fun W => (idx4 (.int .u8 (a.toNat : Int)) (.int .u8 (b.toNat : Int)) (.int .u8 (c.toNat : Int)) (.int .u8 (d.toNat : Int)) W).1
  have i1 := fun W => (idx4 (.int .u8 (a.toNat : Int)) (.int .u8 (b.toNat : Int)) (.int .u8 (c.toNat : Int)) (.int .u8 (d.toNat : Int)) W).2.1
  have i2 := fun W => (idx4 (.int .u8 (a.toNat : Int)) (.int .u8 (b.toNat : Int)) (.int .u8 (c.toNat : Int)) (.int .u8 (d.toNat : Int)) W).2.2.1
  have i3 := fun W => (idx4 (.int .u8 (a.toNat : Int)) (.int .u8 (b.toNat : Int)) (.int .u8 (c.toNat : Int)) (.int .u8 (d.toNat : Int)) W).2.2.2
  have ha := a.toNat_lt; have hb := b.toNat_lt; have hc := c.toNat_lt; have hd := d.toNat_lt
  have h1 := or_u32 0 a.toNat (by omega) (by omega)
  have h1' : bits .or .u32 0 (a.toNat : Int) = a.toNat := by simpa using h1
  obtain ⟨n2, e2⟩ : ∃ n, n = a.toNat * 256 + b.toNat := ⟨_, rfl⟩
  have h2 : bits .or .u32 ((a.toNat : Int) * 256) (b.toNat : Int) = (n2 : Int) := by rw [e2]; exact or_u32 a.toNat b.toNat (by omega) (by omega)
  have g2 : n2 < 65536 := by omega
  obtain ⟨n3, e3⟩ : ∃ n, n = n2 * 256 + c.toNat := ⟨_, rfl⟩
  have h3 : bits .or .u32 ((n2 : Int) * 256) (c.toNat : Int) = (n3 : Int) := by rw [e3]; exact or_u32 n2 c.toNat (by omega) (by omega)
  have g3 : n3 < 16777216 := by omega
  obtain ⟨n4, e4⟩ : ∃ n, n = n3 * 256 + d.toNat := ⟨_, rfl⟩
  have h4 : bits .or .u32 ((n3 : Int) * 256) (d.toNat : Int) = (n4 : Int) := by rw [e4]; exact or_u32 n3 d.toNat (by omega) (by omega)
  have e : Hid (n4 = be [a, b, c, d]) := Lib.hid (by simp [be, e4, e3, e2])
  clear e2 e3 e4
  have x0 : (0 : Int) ≤ a.toNat := by omega
  have x1 : (a.toNat : Int) < 256 := by omega
  have x2 : (0 : Int) ≤ b.toNat := by omega
  have x3 : (b.toNat : Int) < 256 := by omega
  have x4 : (0 : Int) ≤ c.toNat := by omega
  have x5 : (c.toNat : Int) < 256 := by omega
  have x6 : (0 : Int) ≤ d.toNat := by omega
  have x7 : (d.toNat : Int) < 256 := by omega
  have y0 : (0 : Int) ≤ n2 := by omega
  have y1 : (n2 : Int) < 65536 := by omega
  have y2 : (0 : Int) ≤ n3 := by omega
  have y3 : (n3 : Int) < 16777216 := by omega
  clear h1 ha hb hc hd g2 g3
  go_enter Try.func68, Try.ntmps68
  go_wp2
  refine wp_loop_rounds 5 ?_
  rw [rounds_succ]
  go_wp2_with fail
  rw [rounds_succ]
  go_wp2_with fail
  rw [rounds_succ]
  go_wp2_with fail
  rw [rounds_succ]
  go_wp2_with fail
  rw [rounds_succ]
  go_wp2
  go_ret
  exact ⟨ret_k (congrArg _ e.out), bel⟩

/-- An address out of four bytes' number. -/
theorem four_of (p0 p1 p2 p3 : UInt8) : ((be [p0, p1, p2, p3] : Nat) : Int) / 16777216 = p0.toNat ∧ ((be [p0, p1, p2, p3] : Nat) : Int) / 65536 % 256 = p1.toNat ∧ ((be [p0, p1, p2, p3] : Nat) : Int) / 256 % 256 = p2.toNat ∧ ((be [p0, p1, p2, p3] : Nat) : Int) % 256 = p3.toNat := by
  have h0 := p0.toNat_lt; have h1 := p1.toNat_lt; have h2 := p2.toNat_lt; have h3 := p3.toNat_lt
  have e : be [p0, p1, p2, p3] = ((p0.toNat * 256 + p1.toNat) * 256 + p2.toNat) * 256 + p3.toNat := by simp [be]
  rw [e]
  generalize p0.toNat = a at *
  generalize p1.toNat = b at *
  generalize p2.toNat = c at *
  generalize p3.toNat = d at *
  omega
theorem aof_any (n : Nat) (w : World) (hn : n < 4294967296) : Calls Try.prog 70 #[.int .u32 (n : Int)] w fun e w' => e = .returned (.agg #[.int .u8 ((n : Int) / 16777216), .int .u8 ((n : Int) / 65536 % 256), .int .u8 ((n : Int) / 256 % 256), .int .u8 ((n : Int) % 256)]) ∧ Below w.heap.size w w' := by
  have n0 : (0 : Int) ≤ n := by omega
  have n1 : (n : Int) < 4294967296 := by omega
  go_enter Try.func70, Try.ntmps70
  go_wp2
  exact bodyPost_ret (v := .agg #[.int .u8 ((n : Int) / 16777216), .int .u8 ((n : Int) / 65536 % 256), .int .u8 ((n : Int) / 256 % 256), .int .u8 ((n : Int) % 256)]) (by simp [results, Try.results70, go_sem]) rfl ⟨rfl, (Below.refl _ _).alloc (Nat.le_refl _) _⟩
theorem aof_four (p0 p1 p2 p3 : UInt8) (w : World) : Calls Try.prog 70 #[.int .u32 (be [p0, p1, p2, p3] : Nat)] w fun e w' => e = .returned (.agg #[.int .u8 (p0.toNat : Int), .int .u8 (p1.toNat : Int), .int .u8 (p2.toNat : Int), .int .u8 (p3.toNat : Int)]) ∧ Below w.heap.size w w' := by
  refine (aof_any (be [p0, p1, p2, p3]) w (by have := be_lt 4 [p0, p1, p2, p3] rfl; omega)).mono ?_
  rintro e w' ⟨rfl, bel⟩
  obtain ⟨e0, e1, e2, e3⟩ := four_of p0 p1 p2 p3
  rw [e0, e1, e2, e3]
  exact ⟨rfl, bel⟩

theorem pair_any (A : Option Addr) (n c k : Nat) (l : List UInt8) (w : World) (hl : Sl w A n c l) (hk : k + 2 ≤ n) (hm : k ≤ 100000) :
    Calls Try.prog 69 #[.slice A n c, .int .i64 (k : Int)] w fun e w' => e = .returned (.int .i64 (be ((l.drop k).take 2) : Nat)) ∧ Below w.heap.size w w' := by
  obtain ⟨A', c', hs, hsl⟩ := slice_mid hl (p := k) (k := 2) hk
  replace hs : ∀ W, (Instr.slice 25 (.slice A n c) (some (.int .i64 (k : Int))) (some (.int .i64 ((k : Int) + 2))) none).run Try.prog W = .ok (.slice A' 2 c') W := hs
  have b0 : (0 : Int) ≤ k := by omega
  have b1 : (k : Int) ≤ 100000 := by omega
  have hL := hl.1
  clear hl
  go_enter Try.func69, Try.ntmps69
  go_wp2_with fail
  with_reducible refine (read_any A' 2 c' _ _ hsl (by omega)).mono ?_
  rintro e w1 ⟨g, rfl, hr, bel, hg⟩
  clear hs hsl
  go_wp2_with fail
  with_reducible refine (u16_yes g _ _ _ hr (by rw [List.length_take, List.length_drop]; omega)).mono ?_
  rintro e w2 ⟨rfl, hr2, hg2⟩
  have bel2 := bel.grown hg2 bel.size (fun k h => by cases h; exact hg)
  rw [List.take_take, Nat.min_self]
  go_wp2
  go_ret
  exact ⟨rfl, bel2⟩
theorem pair_2 (A : Option Addr) (n c : Nat) (l : List UInt8) (w : World) (hl : Sl w A n c l) (hk : 4 ≤ n) :
    Calls Try.prog 69 #[.slice A n c, .int .i64 2] w fun e w' => e = .returned (.int .i64 (be ((l.drop 2).take 2) : Nat)) ∧ Below w.heap.size w w' := pair_any A n c 2 l w hl hk (by omega)
theorem pair_10 (A : Option Addr) (n c : Nat) (l : List UInt8) (w : World) (hl : Sl w A n c l) (hk : 12 ≤ n) :
    Calls Try.prog 69 #[.slice A n c, .int .i64 10] w fun e w' => e = .returned (.int .i64 (be ((l.drop 10).take 2) : Nat)) ∧ Below w.heap.size w w' := pair_any A n c 10 l w hl hk (by omega)

theorem sz_short (A : Option Addr) (n c : Nat) (w : World) (h : n < 20) : Calls Try.prog 56 #[.slice A n c] w fun e w' => e = .returned (.tuple #[.int .i64 0, .int .i64 0, .int .i64 3]) ∧ Below w.heap.size w w' := by
  have bel := Below.refl w.heap.size w
  have h1 : (n : Int) < 20 := by omega
  clear h
  go_enter Try.func56, Try.ntmps56
  go_wp2
  exact bodyPost_ret (v := .tuple #[.int .i64 0, .int .i64 0, .int .i64 3]) (by simp [results, Try.results56, go_sem]) rfl ⟨rfl, bel⟩

set_option maxRecDepth 100000 in
set_option maxHeartbeats 4000000 in
theorem sz_bad4 (A : Option Addr) (n c : Nat) (x : UInt8) (r : List UInt8) (w : World) (hl : Sl w A n c (x :: r)) (hn : 20 ≤ n) (hv : x.toNat / 16 ≠ 4) :
    Calls Try.prog 56 #[.slice A n c] w fun e w' => e = .returned (.tuple #[.int .i64 0, .int .i64 0, .int .i64 4]) ∧ Below w.heap.size w w' := by
  have bel := Below.refl w.heap.size w
  have t1 : decide ((n : Int) < 20) = false := decide_eq_false (by omega)
  have n0 : (0 : Int) < n := by omega
  obtain ⟨d, o, rfl, hc⟩ := hl.2.2.2 (by omega)
  have k0 := hc 0 x rfl
  unfold u8v at k0
  rw [Nat.add_zero] at k0
  have hx := x.toNat_lt
  have x0 : (0 : Int) ≤ x.toNat := by omega
  have x1 : (x.toNat : Int) < 256 := by omega
  have ew : (x.toNat : Int) % 16 * 4 = (hlen x : Int) := by unfold hlen; omega
  have e1 : ((x.toNat : Int) / 16 == 4) = false := by simp; omega
  have e2 : ((x.toNat : Int) / 16 != 4) = true := by simp; omega
  have h60 : (hlen x : Int) ≤ 60 := by unfold hlen; omega
  clear hl hc hx hn hv
  go_enter Try.func56, Try.ntmps56
  go_wp2
  exact bodyPost_ret (v := .tuple #[.int .i64 0, .int .i64 0, .int .i64 4]) (by simp [results, Try.results56, go_sem]) rfl ⟨rfl, bel⟩

set_option maxRecDepth 100000 in
set_option maxHeartbeats 4000000 in
theorem sz_bad5 (A : Option Addr) (n c : Nat) (x : UInt8) (r : List UInt8) (w : World) (hl : Sl w A n c (x :: r)) (hn : 20 ≤ n) (g4 : x.toNat / 16 = 4) (hv : hlen x < 20) :
    Calls Try.prog 56 #[.slice A n c] w fun e w' => e = .returned (.tuple #[.int .i64 0, .int .i64 0, .int .i64 4]) ∧ Below w.heap.size w w' := by
  have bel := Below.refl w.heap.size w
  have t1 : decide ((n : Int) < 20) = false := decide_eq_false (by omega)
  have n0 : (0 : Int) < n := by omega
  obtain ⟨d, o, rfl, hc⟩ := hl.2.2.2 (by omega)
  have k0 := hc 0 x rfl
  unfold u8v at k0
  rw [Nat.add_zero] at k0
  have hx := x.toNat_lt
  have x0 : (0 : Int) ≤ x.toNat := by omega
  have x1 : (x.toNat : Int) < 256 := by omega
  have ew : (x.toNat : Int) % 16 * 4 = (hlen x : Int) := by unfold hlen; omega
  have e4 : (x.toNat : Int) / 16 = 4 := by omega
  obtain ⟨H, HH⟩ : ∃ H, Hid (hlen x = H) := ⟨_, Lib.hid rfl⟩
  have hH60 : H ≤ 60 := by have := HH.out; unfold hlen at this; omega
  rw [HH.out] at ew hv
  have t2 : (H : Int) < 20 := by omega
  clear hl hc hx hn g4 hv hH60
  go_enter Try.func56, Try.ntmps56
  go_wp2
  exact bodyPost_ret (v := .tuple #[.int .i64 0, .int .i64 0, .int .i64 4]) (by simp [results, Try.results56, go_sem]) rfl ⟨rfl, bel⟩

set_option maxRecDepth 100000 in
set_option maxHeartbeats 4000000 in
theorem sz_short2 (A : Option Addr) (n c : Nat) (x : UInt8) (r : List UInt8) (w : World) (hl : Sl w A n c (x :: r)) (hn : 20 ≤ n) (g4 : x.toNat / 16 = 4) (hv : 20 ≤ hlen x) (hv2 : n < hlen x) :
    Calls Try.prog 56 #[.slice A n c] w fun e w' => e = .returned (.tuple #[.int .i64 0, .int .i64 0, .int .i64 3]) ∧ Below w.heap.size w w' := by
  have bel := Below.refl w.heap.size w
  have t1 : decide ((n : Int) < 20) = false := decide_eq_false (by omega)
  have n0 : (0 : Int) < n := by omega
  obtain ⟨d, o, rfl, hc⟩ := hl.2.2.2 (by omega)
  have k0 := hc 0 x rfl
  unfold u8v at k0
  rw [Nat.add_zero] at k0
  have hx := x.toNat_lt
  have x0 : (0 : Int) ≤ x.toNat := by omega
  have x1 : (x.toNat : Int) < 256 := by omega
  have ew : (x.toNat : Int) % 16 * 4 = (hlen x : Int) := by unfold hlen; omega
  have e4 : (x.toNat : Int) / 16 = 4 := by omega
  obtain ⟨H, HH⟩ : ∃ H, Hid (hlen x = H) := ⟨_, Lib.hid rfl⟩
  have hH60 : H ≤ 60 := by have := HH.out; unfold hlen at this; omega
  rw [HH.out] at ew hv hv2
  have t2 : decide ((H : Int) < 20) = false := decide_eq_false (by omega)
  have t3 : n < H := by omega
  clear hl hc hx hn g4 hv hH60 hv2
  go_enter Try.func56, Try.ntmps56
  go_wp2
  exact bodyPost_ret (v := .tuple #[.int .i64 0, .int .i64 0, .int .i64 3]) (by simp [results, Try.results56, go_sem]) rfl ⟨rfl, bel⟩

set_option maxRecDepth 100000 in
set_option maxHeartbeats 4000000 in
theorem sz_sum (A : Option Addr) (n c : Nat) (x : UInt8) (r : List UInt8) (w : World) (hl : Sl w A n c (x :: r)) (hn : 20 ≤ n) (g4 : x.toNat / 16 = 4) (hv : 20 ≤ hlen x) (hv2 : hlen x ≤ n) (hm : n ≤ 100000) (hs : ck ((x :: r).take (hlen x)) ≠ 0) :
    Calls Try.prog 56 #[.slice A n c] w fun e w' => e = .returned (.tuple #[.int .i64 0, .int .i64 0, .int .i64 5]) ∧ Below w.heap.size w w' := by
  have bel := Below.refl w.heap.size w
  have t1 : decide ((n : Int) < 20) = false := decide_eq_false (by omega)
  have n0 : (0 : Int) < n := by omega
  obtain ⟨d, o, rfl, hc⟩ := hl.2.2.2 (by omega)
  have k0 := hc 0 x rfl
  unfold u8v at k0
  rw [Nat.add_zero] at k0
  have hx := x.toNat_lt
  have x0 : (0 : Int) ≤ x.toNat := by omega
  have x1 : (x.toNat : Int) < 256 := by omega
  have ew : (x.toNat : Int) % 16 * 4 = (hlen x : Int) := by unfold hlen; omega
  have e4 : (x.toNat : Int) / 16 = 4 := by omega
  obtain ⟨H, HH⟩ : ∃ H, Hid (hlen x = H) := ⟨_, Lib.hid rfl⟩
  have hH60 : H ≤ 60 := by have := HH.out; unfold hlen at this; omega
  rw [HH.out] at ew hv hv2 hs
  have t2 : decide ((H : Int) < 20) = false := decide_eq_false (by omega)
  have t3 : decide (n < H) = false := decide_eq_false (by omega)
  have HN := Lib.hid hn; have H60 := Lib.hid hH60; have HM := Lib.hid hm
  obtain ⟨AF, cF, sF, hF⟩ := slice_front hl (k := H) (by omega)
  have HL := Lib.hid fun W (h : Below w.heap.size w W) => hl.below h
  have HS := Lib.hid hs
  clear hl hc hx hn g4 hv hH60 hv2 hm hs
  go_enter Try.func56, Try.ntmps56
  go_wp2_with fail
  with_reducible refine (fits_no AF H cF _ _ hF HS.out).mono ?_
  rintro e w1 ⟨rfl, b1⟩
  replace bel := bel.trans (b1.mono bel.size)
  clear k0 b1 sF hF HS
  go_wp2
  exact bodyPost_ret (v := .tuple #[.int .i64 0, .int .i64 0, .int .i64 5]) (by simp [results, Try.results56, go_sem]) rfl ⟨rfl, bel⟩

set_option maxRecDepth 100000 in
set_option maxHeartbeats 4000000 in
theorem sz_bad6 (A : Option Addr) (n c : Nat) (x : UInt8) (r : List UInt8) (w : World) (hl : Sl w A n c (x :: r)) (hn : 20 ≤ n) (g4 : x.toNat / 16 = 4) (hv : 20 ≤ hlen x) (hv2 : hlen x ≤ n) (hm : n ≤ 100000) (hs : ck ((x :: r).take (hlen x)) = 0) (hb : be (((x :: r).drop 2).take 2) < hlen x) :
    Calls Try.prog 56 #[.slice A n c] w fun e w' => e = .returned (.tuple #[.int .i64 0, .int .i64 0, .int .i64 4]) ∧ Below w.heap.size w w' := by
  have bel := Below.refl w.heap.size w
  have t1 : decide ((n : Int) < 20) = false := decide_eq_false (by omega)
  have n0 : (0 : Int) < n := by omega
  obtain ⟨d, o, rfl, hc⟩ := hl.2.2.2 (by omega)
  have k0 := hc 0 x rfl
  unfold u8v at k0
  rw [Nat.add_zero] at k0
  have hx := x.toNat_lt
  have x0 : (0 : Int) ≤ x.toNat := by omega
  have x1 : (x.toNat : Int) < 256 := by omega
  have ew : (x.toNat : Int) % 16 * 4 = (hlen x : Int) := by unfold hlen; omega
  have e4 : (x.toNat : Int) / 16 = 4 := by omega
  obtain ⟨H, HH⟩ : ∃ H, Hid (hlen x = H) := ⟨_, Lib.hid rfl⟩
  have hH60 : H ≤ 60 := by have := HH.out; unfold hlen at this; omega
  rw [HH.out] at ew hv hv2 hs hb
  have t2 : decide ((H : Int) < 20) = false := decide_eq_false (by omega)
  have t3 : decide (n < H) = false := decide_eq_false (by omega)
  have HN := Lib.hid hn; have H60 := Lib.hid hH60; have HM := Lib.hid hm
  obtain ⟨AF, cF, sF, hF⟩ := slice_front hl (k := H) (by omega)
  have HL := Lib.hid fun W (h : Below w.heap.size w W) => hl.below h
  have HS := Lib.hid hs
  obtain ⟨nn, hnn⟩ : ∃ nn, Hid (be (((x :: r).drop 2).take 2) = nn) := ⟨_, Lib.hid rfl⟩
  rw [hnn.out] at hb
  have t5 : nn < H := by omega
  clear hl hc hx hn g4 hv hH60 hv2 hm hs hb
  go_enter Try.func56, Try.ntmps56
  go_wp2_with fail
  with_reducible refine (fits_yes AF H cF _ _ hF HS.out).mono ?_
  rintro e w1 ⟨rfl, b1⟩
  replace bel := bel.trans (b1.mono bel.size)
  clear k0 b1 sF hF HS
  go_wp2_with fail
  with_reducible refine (pair_2 _ n c _ _ (HL.out _ bel) (by have := HN.out; omega)).mono ?_
  rintro e w2 ⟨rfl, b2⟩
  replace bel := bel.trans (b2.mono bel.size)
  clear b2
  rw [hnn.out]
  go_wp2
  exact bodyPost_ret (v := .tuple #[.int .i64 0, .int .i64 0, .int .i64 4]) (by simp [results, Try.results56, go_sem]) rfl ⟨rfl, bel⟩

set_option maxRecDepth 100000 in
set_option maxHeartbeats 4000000 in
theorem sz_short3 (A : Option Addr) (n c : Nat) (x : UInt8) (r : List UInt8) (w : World) (hl : Sl w A n c (x :: r)) (hn : 20 ≤ n) (g4 : x.toNat / 16 = 4) (hv : 20 ≤ hlen x) (hv2 : hlen x ≤ n) (hm : n ≤ 100000) (hs : ck ((x :: r).take (hlen x)) = 0) (hb : hlen x ≤ be (((x :: r).drop 2).take 2)) (hb2 : n < be (((x :: r).drop 2).take 2)) :
    Calls Try.prog 56 #[.slice A n c] w fun e w' => e = .returned (.tuple #[.int .i64 0, .int .i64 0, .int .i64 3]) ∧ Below w.heap.size w w' := by
  have bel := Below.refl w.heap.size w
  have t1 : decide ((n : Int) < 20) = false := decide_eq_false (by omega)
  have n0 : (0 : Int) < n := by omega
  obtain ⟨d, o, rfl, hc⟩ := hl.2.2.2 (by omega)
  have k0 := hc 0 x rfl
  unfold u8v at k0
  rw [Nat.add_zero] at k0
  have hx := x.toNat_lt
  have x0 : (0 : Int) ≤ x.toNat := by omega
  have x1 : (x.toNat : Int) < 256 := by omega
  have ew : (x.toNat : Int) % 16 * 4 = (hlen x : Int) := by unfold hlen; omega
  have e4 : (x.toNat : Int) / 16 = 4 := by omega
  obtain ⟨H, HH⟩ : ∃ H, Hid (hlen x = H) := ⟨_, Lib.hid rfl⟩
  have hH60 : H ≤ 60 := by have := HH.out; unfold hlen at this; omega
  rw [HH.out] at ew hv hv2 hs hb
  have t2 : decide ((H : Int) < 20) = false := decide_eq_false (by omega)
  have t3 : decide (n < H) = false := decide_eq_false (by omega)
  have HN := Lib.hid hn; have H60 := Lib.hid hH60; have HM := Lib.hid hm
  obtain ⟨AF, cF, sF, hF⟩ := slice_front hl (k := H) (by omega)
  have HL := Lib.hid fun W (h : Below w.heap.size w W) => hl.below h
  have HS := Lib.hid hs
  obtain ⟨nn, hnn⟩ : ∃ nn, Hid (be (((x :: r).drop 2).take 2) = nn) := ⟨_, Lib.hid rfl⟩
  rw [hnn.out] at hb hb2
  have t5 : decide (nn < H) = false := decide_eq_false (by omega)
  have t6 : n < nn := by omega
  clear hl hc hx hn g4 hv hH60 hv2 hm hs hb hb2
  go_enter Try.func56, Try.ntmps56
  go_wp2_with fail
  with_reducible refine (fits_yes AF H cF _ _ hF HS.out).mono ?_
  rintro e w1 ⟨rfl, b1⟩
  replace bel := bel.trans (b1.mono bel.size)
  clear k0 b1 sF hF HS
  go_wp2_with fail
  with_reducible refine (pair_2 _ n c _ _ (HL.out _ bel) (by have := HN.out; omega)).mono ?_
  rintro e w2 ⟨rfl, b2⟩
  replace bel := bel.trans (b2.mono bel.size)
  clear b2
  rw [hnn.out]
  go_wp2
  exact bodyPost_ret (v := .tuple #[.int .i64 0, .int .i64 0, .int .i64 3]) (by simp [results, Try.results56, go_sem]) rfl ⟨rfl, bel⟩

set_option maxRecDepth 100000 in
set_option maxHeartbeats 4000000 in
theorem sz_ok (A : Option Addr) (n c : Nat) (x : UInt8) (r : List UInt8) (w : World) (hl : Sl w A n c (x :: r)) (hn : 20 ≤ n) (g4 : x.toNat / 16 = 4) (hv : 20 ≤ hlen x) (hv2 : hlen x ≤ n) (hm : n ≤ 100000) (hs : ck ((x :: r).take (hlen x)) = 0) (hb : hlen x ≤ be (((x :: r).drop 2).take 2)) (hb2 : be (((x :: r).drop 2).take 2) ≤ n) :
    Calls Try.prog 56 #[.slice A n c] w fun e w' => e = .returned (.tuple #[.int .i64 (hlen x : Int), .int .i64 (be (((x :: r).drop 2).take 2) : Nat), .int .i64 0]) ∧ Below w.heap.size w w' := by
  have bel := Below.refl w.heap.size w
  have t1 : decide ((n : Int) < 20) = false := decide_eq_false (by omega)
  have n0 : (0 : Int) < n := by omega
  obtain ⟨d, o, rfl, hc⟩ := hl.2.2.2 (by omega)
  have k0 := hc 0 x rfl
  unfold u8v at k0
  rw [Nat.add_zero] at k0
  have hx := x.toNat_lt
  have x0 : (0 : Int) ≤ x.toNat := by omega
  have x1 : (x.toNat : Int) < 256 := by omega
  have ew : (x.toNat : Int) % 16 * 4 = (hlen x : Int) := by unfold hlen; omega
  have e4 : (x.toNat : Int) / 16 = 4 := by omega
  obtain ⟨H, HH⟩ : ∃ H, Hid (hlen x = H) := ⟨_, Lib.hid rfl⟩
  have hH60 : H ≤ 60 := by have := HH.out; unfold hlen at this; omega
  rw [HH.out] at ew hv hv2 hs hb ⊢
  have t2 : decide ((H : Int) < 20) = false := decide_eq_false (by omega)
  have t3 : decide (n < H) = false := decide_eq_false (by omega)
  have HN := Lib.hid hn; have H60 := Lib.hid hH60; have HM := Lib.hid hm
  obtain ⟨AF, cF, sF, hF⟩ := slice_front hl (k := H) (by omega)
  have HL := Lib.hid fun W (h : Below w.heap.size w W) => hl.below h
  have HS := Lib.hid hs
  obtain ⟨nn, hnn⟩ : ∃ nn, Hid (be (((x :: r).drop 2).take 2) = nn) := ⟨_, Lib.hid rfl⟩
  rw [hnn.out] at hb hb2 ⊢
  have t5 : decide (nn < H) = false := decide_eq_false (by omega)
  have t6 : decide (n < nn) = false := decide_eq_false (by omega)
  clear hl hc hx hn g4 hv hH60 hv2 hm hs hb hb2
  go_enter Try.func56, Try.ntmps56
  go_wp2_with fail
  with_reducible refine (fits_yes AF H cF _ _ hF HS.out).mono ?_
  rintro e w1 ⟨rfl, b1⟩
  replace bel := bel.trans (b1.mono bel.size)
  clear k0 b1 sF hF HS
  go_wp2_with fail
  with_reducible refine (pair_2 _ n c _ _ (HL.out _ bel) (by have := HN.out; omega)).mono ?_
  rintro e w2 ⟨rfl, b2⟩
  replace bel := bel.trans (b2.mono bel.size)
  clear b2
  rw [hnn.out]
  go_wp2
  exact bodyPost_ret (v := .tuple #[.int .i64 (H : Int), .int .i64 (nn : Int), .int .i64 0]) (by simp [results, Try.results56, go_sem]) rfl ⟨rfl, bel⟩

theorem sz_err (A : Option Addr) (n c : Nat) (l : List UInt8) (w : World) (hl : Sl w A n c l) (hm : n ≤ 100000) (he : ipErr l ≠ 0) :
    Calls Try.prog 56 #[.slice A n c] w fun e w' => e = .returned (.tuple #[.int .i64 0, .int .i64 0, .int .i64 (ipErr l)]) ∧ Below w.heap.size w w' := by
  have hn := hl.1
  by_cases g1 : n < 20
  · have e : ipErr l = 3 := by unfold ipErr; rw [if_pos (by omega)]
    rw [e]; exact sz_short A n c w g1
  obtain ⟨h0, h1, h2, h3, h4, h5, h6, h7, h8, h9, h10, h11, h12, h13, h14, h15, h16, h17, h18, h19, r, rfl⟩ := list20 l (by omega)
  have n1 : ¬ (h0 :: h1 :: h2 :: h3 :: h4 :: h5 :: h6 :: h7 :: h8 :: h9 :: h10 :: h11 :: h12 :: h13 :: h14 :: h15 :: h16 :: h17 :: h18 :: h19 :: r).length < 20 := by omega
  by_cases g2 : h0.toNat / 16 = 4
  · by_cases g3 : hlen h0 < 20
    · have e : ipErr (h0 :: h1 :: h2 :: h3 :: h4 :: h5 :: h6 :: h7 :: h8 :: h9 :: h10 :: h11 :: h12 :: h13 :: h14 :: h15 :: h16 :: h17 :: h18 :: h19 :: r) = 4 := by unfold ipErr; rw [if_neg n1, if_pos (.inr g3)]
      rw [e]; exact sz_bad5 A n c h0 _ w hl (by omega) g2 g3
    have n2 : ¬ (((h0 :: h1 :: h2 :: h3 :: h4 :: h5 :: h6 :: h7 :: h8 :: h9 :: h10 :: h11 :: h12 :: h13 :: h14 :: h15 :: h16 :: h17 :: h18 :: h19 :: r).getD 0 0).toNat / 16 ≠ 4 ∨ hlen ((h0 :: h1 :: h2 :: h3 :: h4 :: h5 :: h6 :: h7 :: h8 :: h9 :: h10 :: h11 :: h12 :: h13 :: h14 :: h15 :: h16 :: h17 :: h18 :: h19 :: r).getD 0 0) < 20) := fun h => h.elim (fun h => h g2) g3
    by_cases g4 : n < hlen h0
    · have e : ipErr (h0 :: h1 :: h2 :: h3 :: h4 :: h5 :: h6 :: h7 :: h8 :: h9 :: h10 :: h11 :: h12 :: h13 :: h14 :: h15 :: h16 :: h17 :: h18 :: h19 :: r) = 3 := by unfold ipErr; rw [if_neg n1, if_neg n2, if_pos (by rw [hn]; exact g4)]
      rw [e]; exact sz_short2 A n c h0 _ w hl (by omega) g2 (by omega) g4
    have n3 : ¬ (h0 :: h1 :: h2 :: h3 :: h4 :: h5 :: h6 :: h7 :: h8 :: h9 :: h10 :: h11 :: h12 :: h13 :: h14 :: h15 :: h16 :: h17 :: h18 :: h19 :: r).length < hlen ((h0 :: h1 :: h2 :: h3 :: h4 :: h5 :: h6 :: h7 :: h8 :: h9 :: h10 :: h11 :: h12 :: h13 :: h14 :: h15 :: h16 :: h17 :: h18 :: h19 :: r).getD 0 0) := by rw [hn]; exact g4
    by_cases g5 : ck ((h0 :: h1 :: h2 :: h3 :: h4 :: h5 :: h6 :: h7 :: h8 :: h9 :: h10 :: h11 :: h12 :: h13 :: h14 :: h15 :: h16 :: h17 :: h18 :: h19 :: r).take (hlen h0)) = 0
    · have n4 : ¬ ck ((h0 :: h1 :: h2 :: h3 :: h4 :: h5 :: h6 :: h7 :: h8 :: h9 :: h10 :: h11 :: h12 :: h13 :: h14 :: h15 :: h16 :: h17 :: h18 :: h19 :: r).take (hlen ((h0 :: h1 :: h2 :: h3 :: h4 :: h5 :: h6 :: h7 :: h8 :: h9 :: h10 :: h11 :: h12 :: h13 :: h14 :: h15 :: h16 :: h17 :: h18 :: h19 :: r).getD 0 0))) ≠ 0 := fun h => h g5
      by_cases g6 : be [h2, h3] < hlen h0
      · have e : ipErr (h0 :: h1 :: h2 :: h3 :: h4 :: h5 :: h6 :: h7 :: h8 :: h9 :: h10 :: h11 :: h12 :: h13 :: h14 :: h15 :: h16 :: h17 :: h18 :: h19 :: r) = 4 := by unfold ipErr; rw [if_neg n1, if_neg n2, if_neg n3, if_neg n4, if_pos (by exact g6)]
        rw [e]; exact sz_bad6 A n c h0 _ w hl (by omega) g2 (by omega) (by omega) hm g5 g6
      have n5 : ¬ be (((h0 :: h1 :: h2 :: h3 :: h4 :: h5 :: h6 :: h7 :: h8 :: h9 :: h10 :: h11 :: h12 :: h13 :: h14 :: h15 :: h16 :: h17 :: h18 :: h19 :: r).drop 2).take 2) < hlen ((h0 :: h1 :: h2 :: h3 :: h4 :: h5 :: h6 :: h7 :: h8 :: h9 :: h10 :: h11 :: h12 :: h13 :: h14 :: h15 :: h16 :: h17 :: h18 :: h19 :: r).getD 0 0) := g6
      by_cases g7 : n < be [h2, h3]
      · have e : ipErr (h0 :: h1 :: h2 :: h3 :: h4 :: h5 :: h6 :: h7 :: h8 :: h9 :: h10 :: h11 :: h12 :: h13 :: h14 :: h15 :: h16 :: h17 :: h18 :: h19 :: r) = 3 := by unfold ipErr; rw [if_neg n1, if_neg n2, if_neg n3, if_neg n4, if_neg n5, if_pos (by rw [hn]; exact g7)]
        rw [e]; exact sz_short3 A n c h0 _ w hl (by omega) g2 (by omega) (by omega) hm g5 (Nat.le_of_not_lt g6) g7
      have n6 : ¬ (h0 :: h1 :: h2 :: h3 :: h4 :: h5 :: h6 :: h7 :: h8 :: h9 :: h10 :: h11 :: h12 :: h13 :: h14 :: h15 :: h16 :: h17 :: h18 :: h19 :: r).length < be (((h0 :: h1 :: h2 :: h3 :: h4 :: h5 :: h6 :: h7 :: h8 :: h9 :: h10 :: h11 :: h12 :: h13 :: h14 :: h15 :: h16 :: h17 :: h18 :: h19 :: r).drop 2).take 2) := by rw [hn]; exact g7
      exact absurd (by unfold ipErr; rw [if_neg n1, if_neg n2, if_neg n3, if_neg n4, if_neg n5, if_neg n6]) he
    · have e : ipErr (h0 :: h1 :: h2 :: h3 :: h4 :: h5 :: h6 :: h7 :: h8 :: h9 :: h10 :: h11 :: h12 :: h13 :: h14 :: h15 :: h16 :: h17 :: h18 :: h19 :: r) = 5 := by unfold ipErr; rw [if_neg n1, if_neg n2, if_neg n3, if_pos (by exact g5)]
      rw [e]; exact sz_sum A n c h0 _ w hl (by omega) g2 (by omega) (by omega) hm g5
  · have e : ipErr (h0 :: h1 :: h2 :: h3 :: h4 :: h5 :: h6 :: h7 :: h8 :: h9 :: h10 :: h11 :: h12 :: h13 :: h14 :: h15 :: h16 :: h17 :: h18 :: h19 :: r) = 4 := by unfold ipErr; rw [if_neg n1, if_pos (.inl g2)]
    rw [e]; exact sz_bad4 A n c h0 _ w hl (by omega) g2
theorem sz_good (A : Option Addr) (n c : Nat) (h0 h1 h2 h3 h4 h5 h6 h7 h8 h9 h10 h11 h12 h13 h14 h15 h16 h17 h18 h19 : UInt8) (r : List UInt8) (w : World) (hl : Sl w A n c (h0 :: h1 :: h2 :: h3 :: h4 :: h5 :: h6 :: h7 :: h8 :: h9 :: h10 :: h11 :: h12 :: h13 :: h14 :: h15 :: h16 :: h17 :: h18 :: h19 :: r)) (hm : n ≤ 100000) (he : ipErr (h0 :: h1 :: h2 :: h3 :: h4 :: h5 :: h6 :: h7 :: h8 :: h9 :: h10 :: h11 :: h12 :: h13 :: h14 :: h15 :: h16 :: h17 :: h18 :: h19 :: r) = 0) :
    Calls Try.prog 56 #[.slice A n c] w fun e w' => e = .returned (.tuple #[.int .i64 (hlen h0 : Int), .int .i64 (be [h2, h3] : Nat), .int .i64 0]) ∧ Below w.heap.size w w' := by
  obtain ⟨g1, g2, g3, g4, g5, g6⟩ := ok_parts he
  rw [hl.1] at g3 g6
  exact sz_ok A n c h0 _ w hl (by omega) g1 g2 g3 hm g4 g5 g6
end Go.Proofs.Ytfmllopeeiecjaa
