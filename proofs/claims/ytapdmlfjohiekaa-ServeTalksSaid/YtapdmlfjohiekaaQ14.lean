/- Texts put together: Adr7. -/
import Derived.Test.YtapdmlfjohiekaaQ1
import Derived.Test.YtapdmlfjohiekaaQ13
namespace Go.Proofs.Ytapdmlfjohiekaa
open Go.RowKit

theorem and_mask (n m : Nat) (hm : m ≤ 32) (hn : n < 4294967296) : n &&& maskN m = firstN n m := by
  unfold maskN firstN
  generalize hj : 32 - m = j
  have hj32 : j ≤ 32 := by omega
  have hp : (2 : Nat) ^ j ≤ 2 ^ 32 := Nat.pow_le_pow_right (by omega) hj32
  have hq := Nat.two_pow_pos j
  apply Nat.eq_of_testBit_eq
  intro i
  have e : (4294967296 - 2 ^ j : Nat) = 2 ^ 32 - ((2 ^ j - 1) + 1) := by omega
  rw [Nat.testBit_and, e, Nat.testBit_two_pow_sub_succ (by omega), Nat.testBit_two_pow_sub_one]
  have e2 := Nat.testBit_two_pow_mul_add (i := j) (n / 2 ^ j) (b := 0) hq i
  rw [Nat.add_zero] at e2
  rw [e2, Nat.zero_testBit]
  by_cases h1 : i < j
  · rw [if_pos h1]; simp [h1]
  · rw [if_neg h1, Nat.testBit_div_two_pow, show i - j + j = i by omega]
    by_cases h2 : i < 32
    · simp [h1, h2]
    · have : n.testBit i = false := Nat.testBit_lt_two_pow (Nat.lt_of_lt_of_le hn (Nat.pow_le_pow_right (n := 2) (by omega) (by omega : 32 ≤ i)))
      simp [this]
theorem or_low (n m : Nat) : n ||| (2 ^ (32 - m) - 1) = lastN n m := by
  unfold lastN
  generalize 32 - m = j
  have hq := Nat.two_pow_pos j
  apply Nat.eq_of_testBit_eq
  intro i
  rw [Nat.testBit_or, Nat.testBit_two_pow_sub_one, Nat.testBit_two_pow_mul_add _ (by omega)]
  by_cases h1 : i < j
  · rw [if_pos h1, Nat.testBit_two_pow_sub_one]; simp [h1]
  · rw [if_neg h1, Nat.testBit_div_two_pow, show i - j + j = i by omega]; simp [h1]
theorem xor_mask (n k m : Nat) (hm : m ≤ 32) (hn : n < 4294967296) (hk : k < 4294967296) : ((n ^^^ k) &&& maskN m = 0) ↔ firstN n m = firstN k m := by
  have hx : n ^^^ k < 4294967296 := Nat.xor_lt_two_pow (n := 32) hn hk
  rw [and_mask _ _ hm hx, firstN_eq]
  unfold firstN
  have hq := Nat.two_pow_pos (32 - m)
  generalize 32 - m = j at *
  have e : (n ^^^ k) / 2 ^ j = n / 2 ^ j ^^^ k / 2 ^ j := Nat.xor_div_two_pow
  constructor
  · intro h
    have h0 : (n ^^^ k) / 2 ^ j = 0 := by
      rcases Nat.mul_eq_zero.1 h with h | h
      · omega
      · exact h
    rw [e] at h0
    have : n / 2 ^ j = (n / 2 ^ j ^^^ k / 2 ^ j) ^^^ k / 2 ^ j := by rw [Nat.xor_assoc, Nat.xor_self, Nat.xor_zero]
    rw [this, h0, Nat.zero_xor]
  · intro h
    rw [e, h, Nat.xor_self, Nat.mul_zero]
theorem keep_cell4 {w : World} {g r j : Nat} {x y z u v : Value} (h : w.cell? ⟨g, j, none⟩ = some v) (hne : g ≠ r) : ((((w.setCell ⟨r, 0, none⟩ x).setCell ⟨r, 1, none⟩ y).setCell ⟨r, 2, none⟩ z).setCell ⟨r, 3, none⟩ u).cell? ⟨g, j, none⟩ = some v := by
  rw [World.cell?_of_block (Below.heap_setCell _ ⟨r, 3, none⟩ u g hne), World.cell?_of_block (Below.heap_setCell _ ⟨r, 2, none⟩ z g hne), World.cell?_of_block (Below.heap_setCell _ ⟨r, 1, none⟩ y g hne), World.cell?_of_block (Below.heap_setCell _ ⟨r, 0, none⟩ x g hne), h]
theorem not_mask (m : Nat) (hm : m ≤ 32) : (4294967295 ^^^ maskN m : Nat) = 2 ^ (32 - m) - 1 := by
  have hp : (2 : Nat) ^ (32 - m) ≤ 2 ^ 32 := Nat.pow_le_pow_right (by omega) (by omega)
  have hq := Nat.two_pow_pos (32 - m)
  have hl := maskN_lt m
  have e : (2 ^ (32 - m) - 1 : Nat) = 2 ^ 32 - (maskN m + 1) := by unfold maskN; omega
  rw [e]
  apply Nat.eq_of_testBit_eq
  intro i
  rw [Nat.testBit_xor, show (4294967295 : Nat) = 2 ^ 32 - 1 by decide, Nat.testBit_two_pow_sub_one, Nat.testBit_two_pow_sub_succ hl]
  by_cases h : i < 32
  · simp [h]
  · have : (maskN m).testBit i = false := Nat.testBit_lt_two_pow (Nat.lt_of_lt_of_le hl (Nat.pow_le_pow_right (n := 2) (by omega) (by omega : 32 ≤ i)))
    simp [h, this]

set_option maxRecDepth 100000 in
set_option maxHeartbeats 4000000 in
theorem afirst_any (a b c d : UInt8) (bt : Int) (w : World) : Calls Try.prog 40 #[.agg #[.int .u8 (a.toNat : Int), .int .u8 (b.toNat : Int), .int .u8 (c.toNat : Int), .int .u8 (d.toNat : Int), .int .i64 bt]] w fun e w' => e = .returned (adr (firstN (be [a, b, c, d]) (clamp bt))) ∧ Below w.heap.size w w' := by
  have hlt := be_four_lt a b c d
  have hml := clamp_le bt
  have hkl := maskN_lt (clamp bt)
  have HN := Lib.hid fun W => anum_any a b c d W
  have HM := Lib.hid fun W => amask_any (.int .u8 (a.toNat : Int)) (.int .u8 (b.toNat : Int)) (.int .u8 (c.toNat : Int)) (.int .u8 (d.toNat : Int)) bt W
  generalize be [a, b, c, d] = n at *
  obtain ⟨m, hm⟩ : ∃ m, clamp bt = m := ⟨_, rfl⟩
  rw [hm] at hml hkl HM ⊢
  clear hm
  have hand : bits .and .u32 (n : Int) (maskN m : Int) = (firstN n m : Int) := by rw [u32_and_nat _ _ hlt hkl, and_mask _ _ hml hlt]
  have hfl : firstN n m < 4294967296 := by have := firstN_le n m; omega
  have HO := Lib.hid fun W => aof_any (firstN n m) W hfl
  generalize firstN n m = f at *
  generalize maskN m = k at *
  have f0 : (0 : Int) ≤ f := by omega
  have f1 : (f : Int) < 4294967296 := by omega
  have n0 : (0 : Int) ≤ n := by omega
  have n1 : (n : Int) < 4294967296 := by omega
  have k0 : (0 : Int) ≤ k := by omega
  have k1 : (k : Int) < 4294967296 := by omega
  have hb0 : ((w.alloc (.cells #[.int .u8 (a.toNat : Int), .int .u8 (b.toNat : Int), .int .u8 (c.toNat : Int), .int .u8 (d.toNat : Int), .int .i64 bt] 30)).alloc (.cells #[.int .u8 0, .int .u8 0, .int .u8 0, .int .u8 0] 28)).heap[w.heap.size]? = some (.cells #[.int .u8 (a.toNat : Int), .int .u8 (b.toNat : Int), .int .u8 (c.toNat : Int), .int .u8 (d.toNat : Int), .int .i64 bt] 30 (0, 0)) := (Go.heap_alloc_old (w.alloc (.cells #[.int .u8 (a.toNat : Int), .int .u8 (b.toNat : Int), .int .u8 (c.toNat : Int), .int .u8 (d.toNat : Int), .int .i64 bt] 30)) (.cells #[.int .u8 0, .int .u8 0, .int .u8 0, .int .u8 0] 28) (r := w.heap.size) (by simp)).trans (heap_alloc_new w _)
  have hz : ((w.alloc (.cells #[.int .u8 (a.toNat : Int), .int .u8 (b.toNat : Int), .int .u8 (c.toNat : Int), .int .u8 (d.toNat : Int), .int .i64 bt] 30)).alloc (.cells #[.int .u8 0, .int .u8 0, .int .u8 0, .int .u8 0] 28)).heap[w.heap.size + 1]? = some (.cells #[.int .u8 0, .int .u8 0, .int .u8 0, .int .u8 0] 28 (0, 0)) := by have := heap_alloc_new (w.alloc (.cells #[.int .u8 (a.toNat : Int), .int .u8 (b.toNat : Int), .int .u8 (c.toNat : Int), .int .u8 (d.toNat : Int), .int .i64 bt] 30)) (.cells #[.int .u8 0, .int .u8 0, .int .u8 0, .int .u8 0] 28); simpa using this
  have bel : Below w.heap.size w ((w.alloc (.cells #[.int .u8 (a.toNat : Int), .int .u8 (b.toNat : Int), .int .u8 (c.toNat : Int), .int .u8 (d.toNat : Int), .int .i64 bt] 30)).alloc (.cells #[.int .u8 0, .int .u8 0, .int .u8 0, .int .u8 0] 28)) := ((Below.refl _ w).alloc (Nat.le_refl _) _).alloc (by simp) _
  have hz0 : w.heap.size < ((w.alloc (.cells #[.int .u8 (a.toNat : Int), .int .u8 (b.toNat : Int), .int .u8 (c.toNat : Int), .int .u8 (d.toNat : Int), .int .i64 bt] 30)).alloc (.cells #[.int .u8 0, .int .u8 0, .int .u8 0, .int .u8 0] 28)).heap.size := by simp; omega
  have hzr : w.heap.size + 1 < ((w.alloc (.cells #[.int .u8 (a.toNat : Int), .int .u8 (b.toNat : Int), .int .u8 (c.toNat : Int), .int .u8 (d.toNat : Int), .int .i64 bt] 30)).alloc (.cells #[.int .u8 0, .int .u8 0, .int .u8 0, .int .u8 0] 28)).heap.size := by simp
  obtain ⟨⟨s0, s1, s2, s3, s4⟩, _⟩ := cells5 hb0
  clear hb0 hlt hml hkl hfl
  go_enter Try.func40, Try.ntmps40
  go_wp2_with fail
  generalize ((w.alloc (.cells #[.int .u8 (a.toNat : Int), .int .u8 (b.toNat : Int), .int .u8 (c.toNat : Int), .int .u8 (d.toNat : Int), .int .i64 bt] 30)).alloc (.cells #[.int .u8 0, .int .u8 0, .int .u8 0, .int .u8 0] 28)) = w2 at s0 s1 s2 s3 s4 hz bel hz0 hzr ⊢
  refine wp_region_held_drew (S := fun W => W.cell? ⟨w.heap.size, 0, none⟩ = some (.int .u8 (a.toNat : Int)) ∧ W.cell? ⟨w.heap.size, 1, none⟩ = some (.int .u8 (b.toNat : Int)) ∧ W.cell? ⟨w.heap.size, 2, none⟩ = some (.int .u8 (c.toNat : Int)) ∧ W.cell? ⟨w.heap.size, 3, none⟩ = some (.int .u8 (d.toNat : Int)) ∧ W.cell? ⟨w.heap.size, 4, none⟩ = some (.int .i64 bt)) (by kernel_rfl) ⟨s0, s1, s2, s3, s4⟩ (fun hH => ?_)
  refine wpAnyH_take (i := 0) (v := ?_) rfl (by kernel_rfl) (by kernel_rfl) (by kernel_rfl) (fun _ _ _ h => h) (Or.inl ⟨by rfl, ?_⟩) hH ?_
  rotate_left
  · ((intro W hW; obtain ⟨s0, s1, s2, s3, s4⟩ := hW; go_simp) <;> with_reducible rfl)
  simp only [Act.put, List.getElem_toArray, List.getElem_cons_zero, List.setIfInBounds_toArray, List.set_cons_zero, List.set_cons_succ]
  refine wpAnyH_take (i := 1) (v := ?_) rfl (by kernel_rfl) (by kernel_rfl) (by kernel_rfl) (fun _ _ _ h => h) (Or.inl ⟨by rfl, ?_⟩) hH ?_
  rotate_left
  · ((intro W hW; obtain ⟨s0, s1, s2, s3, s4⟩ := hW; go_simp) <;> with_reducible rfl)
  simp only [sq3, sq4]
  refine wpAnyH_take (i := 3) (v := ?_) rfl (by kernel_rfl) (by kernel_rfl) (by kernel_rfl) (fun _ _ _ h => h) (Or.inl ⟨by rfl, ?_⟩) hH ?_
  rotate_left
  · ((intro W hW; obtain ⟨s0, s1, s2, s3, s4⟩ := hW; go_simp) <;> with_reducible rfl)
  simp only [sq3, sq4]
  refine wpAnyH_ready (rs := [2]) (by kernel_rfl) (by simp) ?_
  refine AllReadyH.cons (o := _) rfl (fun K hK => ?_) AllReadyH.nil
  simp only [sq3]
  go_simp
  with_reducible refine (HN.out _).mono ?_
  rintro e v1 ⟨rfl, b1⟩
  dsimp only
  have bel1 := bel.drew.trans (b1.mono bel.size)
  have z1 := (b1.block _ hzr).trans hz
  refine hK.out _ _ ⟨(b1.cell (p := ⟨_, 0, none⟩) hz0).trans hH.1, (b1.cell (p := ⟨_, 1, none⟩) hz0).trans hH.2.1, (b1.cell (p := ⟨_, 2, none⟩) hz0).trans hH.2.2.1, (b1.cell (p := ⟨_, 3, none⟩) hz0).trans hH.2.2.2.1, (b1.cell (p := ⟨_, 4, none⟩) hz0).trans hH.2.2.2.2⟩ (fun hH1 => ?_)
  clear hK K
  replace hz0 := Nat.lt_of_lt_of_le hz0 b1.size
  replace hzr := Nat.lt_of_lt_of_le hzr b1.size
  refine wpAnyH_ready (rs := [4]) (by kernel_rfl) (by simp) ?_
  refine AllReadyH.cons (o := _) rfl (fun K hK => ?_) AllReadyH.nil
  simp only [sq3]
  go_simp
  with_reducible refine (HM.out _).mono ?_
  rintro e v2 ⟨rfl, b2⟩
  dsimp only
  have bel2 := bel1.trans (b2.mono bel1.size)
  have z2 := (b2.block _ hzr).trans z1
  refine hK.out _ _ ⟨(b2.cell (p := ⟨_, 0, none⟩) hz0).trans hH1.1, (b2.cell (p := ⟨_, 1, none⟩) hz0).trans hH1.2.1, (b2.cell (p := ⟨_, 2, none⟩) hz0).trans hH1.2.2.1, (b2.cell (p := ⟨_, 3, none⟩) hz0).trans hH1.2.2.2.1, (b2.cell (p := ⟨_, 4, none⟩) hz0).trans hH1.2.2.2.2⟩ (fun hH2 => ?_)
  clear hK K
  replace hz0 := Nat.lt_of_lt_of_le hz0 b2.size
  replace hzr := Nat.lt_of_lt_of_le hzr b2.size
  refine wpAnyH_take (i := 5) (v := ?_) rfl (by kernel_rfl) (by kernel_rfl) (by kernel_rfl) (fun _ _ _ h => h) (Or.inl ⟨by rfl, ?_⟩) hH2 ?_
  rotate_left
  · ((intro W hW; obtain ⟨s0, s1, s2, s3, s4⟩ := hW; go_simp) <;> with_reducible rfl)
  simp only [sq3, sq4]
  refine wpAnyH_ready (rs := [6]) (by kernel_rfl) (by simp) ?_
  refine AllReadyH.cons (o := _) rfl (fun K hK => ?_) AllReadyH.nil
  simp only [sq3]
  go_simp
  with_reducible refine (HO.out _).mono ?_
  rintro e v3 ⟨rfl, b3⟩
  dsimp only
  have bel3 := bel2.trans (b3.mono bel2.size)
  have z3 := (b3.block _ hzr).trans z2
  refine hK.out _ _ ⟨(b3.cell (p := ⟨_, 0, none⟩) hz0).trans hH2.1, (b3.cell (p := ⟨_, 1, none⟩) hz0).trans hH2.2.1, (b3.cell (p := ⟨_, 2, none⟩) hz0).trans hH2.2.2.1, (b3.cell (p := ⟨_, 3, none⟩) hz0).trans hH2.2.2.2.1, (b3.cell (p := ⟨_, 4, none⟩) hz0).trans hH2.2.2.2.2⟩ (fun hH3 => ?_)
  clear hK K
  replace hz0 := Nat.lt_of_lt_of_le hz0 b3.size
  obtain ⟨⟨q0, q1, q2, q3⟩, f0, f1, f2, f3⟩ := cells4 z3
  have Z3 := Lib.hid z3
  clear hz z1 z2 z3 b1 b2 b3
  simp only [adr]
  refine wpAnyH_ready (rs := [7]) (by kernel_rfl) (by simp) ?_
  refine AllReadyH.cons (o := _) rfl (fun K hK => ?_) AllReadyH.nil
  simp only [sq3]
  go_simp
  have hne : w.heap.size ≠ w.heap.size + 1 := by omega
  refine hK.out _ _ ⟨keep_cell4 hH3.1 hne, keep_cell4 hH3.2.1 hne, keep_cell4 hH3.2.2.1 hne, keep_cell4 hH3.2.2.2.1 hne, keep_cell4 hH3.2.2.2.2 hne⟩ (fun hH4 => ?_)
  clear hK K
  refine wpAnyH_done (by kernel_rfl) ?_ _
  have R4 := put4 (x := .int .u8 ((f : Int) / 16777216)) (y := .int .u8 ((f : Int) / 65536 % 256)) (z := .int .u8 ((f : Int) / 256 % 256)) (u := .int .u8 ((f : Int) % 256)) Z3.out
  obtain ⟨⟨k0', k1', k2', k3'⟩, _⟩ := cells4 R4
  clear R4
  go_wp2
  exact bodyPost_ret (v := adr f) (by simp [results, Try.results40, go_sem, adr, k0', k1', k2', k3']) rfl ⟨rfl, (((bel3.setCell (by simp) _).setCell (by simp) _).setCell (by simp) _).setCell (by simp) _⟩

set_option maxRecDepth 100000 in
set_option maxHeartbeats 4000000 in
theorem alast_any (a b c d : UInt8) (bt : Int) (w : World) : Calls Try.prog 41 #[.agg #[.int .u8 (a.toNat : Int), .int .u8 (b.toNat : Int), .int .u8 (c.toNat : Int), .int .u8 (d.toNat : Int), .int .i64 bt]] w fun e w' => e = .returned (adr (lastN (be [a, b, c, d]) (clamp bt))) ∧ Below w.heap.size w w' := by
  have hlt := be_four_lt a b c d
  have hml := clamp_le bt
  have hkl := maskN_lt (clamp bt)
  have HN := Lib.hid fun W => anum_any a b c d W
  have HM := Lib.hid fun W => amask_any (.int .u8 (a.toNat : Int)) (.int .u8 (b.toNat : Int)) (.int .u8 (c.toNat : Int)) (.int .u8 (d.toNat : Int)) bt W
  generalize be [a, b, c, d] = n at *
  obtain ⟨m, hm⟩ : ∃ m, clamp bt = m := ⟨_, rfl⟩
  rw [hm] at hml hkl HM ⊢
  clear hm
  have hp : (2 : Nat) ^ (32 - m) ≤ 2 ^ 32 := Nat.pow_le_pow_right (by omega) (by omega)
  have hnot : bits .xor .u32 (if IntKind.u32.signed = true then -1 else IntKind.u32.max) (maskN m : Int) = ((2 ^ (32 - m) - 1 : Nat) : Int) := by
    have := u32_xor_nat 4294967295 (maskN m) (by omega) hkl
    rw [not_mask m hml] at this; exact this
  have hor : bits .or .u32 (n : Int) ((2 ^ (32 - m) - 1 : Nat) : Int) = (lastN n m : Int) := by
    rw [u32_or_nat _ _ hlt (by omega), or_low]
  have q0 : (0 : Int) ≤ ((2 ^ (32 - m) - 1 : Nat) : Int) := by omega
  have q1 : ((2 ^ (32 - m) - 1 : Nat) : Int) < 4294967296 := by omega
  have hfl : lastN n m < 4294967296 := lastN_lt n m hml hlt
  have HO := Lib.hid fun W => aof_any (lastN n m) W hfl
  clear hp
  generalize 2 ^ (32 - m) - 1 = q at *
  generalize lastN n m = f at *
  generalize maskN m = k at *
  have f0 : (0 : Int) ≤ f := by omega
  have f1 : (f : Int) < 4294967296 := by omega
  have n0 : (0 : Int) ≤ n := by omega
  have n1 : (n : Int) < 4294967296 := by omega
  have k0 : (0 : Int) ≤ k := by omega
  have k1 : (k : Int) < 4294967296 := by omega
  have hb0 : ((w.alloc (.cells #[.int .u8 (a.toNat : Int), .int .u8 (b.toNat : Int), .int .u8 (c.toNat : Int), .int .u8 (d.toNat : Int), .int .i64 bt] 30)).alloc (.cells #[.int .u8 0, .int .u8 0, .int .u8 0, .int .u8 0] 28)).heap[w.heap.size]? = some (.cells #[.int .u8 (a.toNat : Int), .int .u8 (b.toNat : Int), .int .u8 (c.toNat : Int), .int .u8 (d.toNat : Int), .int .i64 bt] 30 (0, 0)) := (Go.heap_alloc_old (w.alloc (.cells #[.int .u8 (a.toNat : Int), .int .u8 (b.toNat : Int), .int .u8 (c.toNat : Int), .int .u8 (d.toNat : Int), .int .i64 bt] 30)) (.cells #[.int .u8 0, .int .u8 0, .int .u8 0, .int .u8 0] 28) (r := w.heap.size) (by simp)).trans (heap_alloc_new w _)
  have hz : ((w.alloc (.cells #[.int .u8 (a.toNat : Int), .int .u8 (b.toNat : Int), .int .u8 (c.toNat : Int), .int .u8 (d.toNat : Int), .int .i64 bt] 30)).alloc (.cells #[.int .u8 0, .int .u8 0, .int .u8 0, .int .u8 0] 28)).heap[w.heap.size + 1]? = some (.cells #[.int .u8 0, .int .u8 0, .int .u8 0, .int .u8 0] 28 (0, 0)) := by have := heap_alloc_new (w.alloc (.cells #[.int .u8 (a.toNat : Int), .int .u8 (b.toNat : Int), .int .u8 (c.toNat : Int), .int .u8 (d.toNat : Int), .int .i64 bt] 30)) (.cells #[.int .u8 0, .int .u8 0, .int .u8 0, .int .u8 0] 28); simpa using this
  have bel : Below w.heap.size w ((w.alloc (.cells #[.int .u8 (a.toNat : Int), .int .u8 (b.toNat : Int), .int .u8 (c.toNat : Int), .int .u8 (d.toNat : Int), .int .i64 bt] 30)).alloc (.cells #[.int .u8 0, .int .u8 0, .int .u8 0, .int .u8 0] 28)) := ((Below.refl _ w).alloc (Nat.le_refl _) _).alloc (by simp) _
  have hz0 : w.heap.size < ((w.alloc (.cells #[.int .u8 (a.toNat : Int), .int .u8 (b.toNat : Int), .int .u8 (c.toNat : Int), .int .u8 (d.toNat : Int), .int .i64 bt] 30)).alloc (.cells #[.int .u8 0, .int .u8 0, .int .u8 0, .int .u8 0] 28)).heap.size := by simp; omega
  have hzr : w.heap.size + 1 < ((w.alloc (.cells #[.int .u8 (a.toNat : Int), .int .u8 (b.toNat : Int), .int .u8 (c.toNat : Int), .int .u8 (d.toNat : Int), .int .i64 bt] 30)).alloc (.cells #[.int .u8 0, .int .u8 0, .int .u8 0, .int .u8 0] 28)).heap.size := by simp
  obtain ⟨⟨s0, s1, s2, s3, s4⟩, _⟩ := cells5 hb0
  clear hb0 hlt hml hkl hfl
  go_enter Try.func41, Try.ntmps41
  go_wp2_with fail
  generalize ((w.alloc (.cells #[.int .u8 (a.toNat : Int), .int .u8 (b.toNat : Int), .int .u8 (c.toNat : Int), .int .u8 (d.toNat : Int), .int .i64 bt] 30)).alloc (.cells #[.int .u8 0, .int .u8 0, .int .u8 0, .int .u8 0] 28)) = w2 at s0 s1 s2 s3 s4 hz bel hz0 hzr ⊢
  refine wp_region_held_drew (S := fun W => W.cell? ⟨w.heap.size, 0, none⟩ = some (.int .u8 (a.toNat : Int)) ∧ W.cell? ⟨w.heap.size, 1, none⟩ = some (.int .u8 (b.toNat : Int)) ∧ W.cell? ⟨w.heap.size, 2, none⟩ = some (.int .u8 (c.toNat : Int)) ∧ W.cell? ⟨w.heap.size, 3, none⟩ = some (.int .u8 (d.toNat : Int)) ∧ W.cell? ⟨w.heap.size, 4, none⟩ = some (.int .i64 bt)) (by kernel_rfl) ⟨s0, s1, s2, s3, s4⟩ (fun hH => ?_)
  refine wpAnyH_take (i := 0) (v := ?_) rfl (by kernel_rfl) (by kernel_rfl) (by kernel_rfl) (fun _ _ _ h => h) (Or.inl ⟨by rfl, ?_⟩) hH ?_
  rotate_left
  · ((intro W hW; obtain ⟨s0, s1, s2, s3, s4⟩ := hW; go_simp) <;> with_reducible rfl)
  simp only [Act.put, List.getElem_toArray, List.getElem_cons_zero, List.setIfInBounds_toArray, List.set_cons_zero, List.set_cons_succ]
  refine wpAnyH_take (i := 1) (v := ?_) rfl (by kernel_rfl) (by kernel_rfl) (by kernel_rfl) (fun _ _ _ h => h) (Or.inl ⟨by rfl, ?_⟩) hH ?_
  rotate_left
  · ((intro W hW; obtain ⟨s0, s1, s2, s3, s4⟩ := hW; go_simp) <;> with_reducible rfl)
  simp only [sq3, sq4]
  refine wpAnyH_take (i := 3) (v := ?_) rfl (by kernel_rfl) (by kernel_rfl) (by kernel_rfl) (fun _ _ _ h => h) (Or.inl ⟨by rfl, ?_⟩) hH ?_
  rotate_left
  · ((intro W hW; obtain ⟨s0, s1, s2, s3, s4⟩ := hW; go_simp) <;> with_reducible rfl)
  simp only [sq3, sq4]
  refine wpAnyH_ready (rs := [2]) (by kernel_rfl) (by simp) ?_
  refine AllReadyH.cons (o := _) rfl (fun K hK => ?_) AllReadyH.nil
  simp only [sq3]
  go_simp
  with_reducible refine (HN.out _).mono ?_
  rintro e v1 ⟨rfl, b1⟩
  dsimp only
  have bel1 := bel.drew.trans (b1.mono bel.size)
  have z1 := (b1.block _ hzr).trans hz
  refine hK.out _ _ ⟨(b1.cell (p := ⟨_, 0, none⟩) hz0).trans hH.1, (b1.cell (p := ⟨_, 1, none⟩) hz0).trans hH.2.1, (b1.cell (p := ⟨_, 2, none⟩) hz0).trans hH.2.2.1, (b1.cell (p := ⟨_, 3, none⟩) hz0).trans hH.2.2.2.1, (b1.cell (p := ⟨_, 4, none⟩) hz0).trans hH.2.2.2.2⟩ (fun hH1 => ?_)
  clear hK K
  replace hz0 := Nat.lt_of_lt_of_le hz0 b1.size
  replace hzr := Nat.lt_of_lt_of_le hzr b1.size
  refine wpAnyH_ready (rs := [4]) (by kernel_rfl) (by simp) ?_
  refine AllReadyH.cons (o := _) rfl (fun K hK => ?_) AllReadyH.nil
  simp only [sq3]
  go_simp
  with_reducible refine (HM.out _).mono ?_
  rintro e v2 ⟨rfl, b2⟩
  dsimp only
  have bel2 := bel1.trans (b2.mono bel1.size)
  have z2 := (b2.block _ hzr).trans z1
  refine hK.out _ _ ⟨(b2.cell (p := ⟨_, 0, none⟩) hz0).trans hH1.1, (b2.cell (p := ⟨_, 1, none⟩) hz0).trans hH1.2.1, (b2.cell (p := ⟨_, 2, none⟩) hz0).trans hH1.2.2.1, (b2.cell (p := ⟨_, 3, none⟩) hz0).trans hH1.2.2.2.1, (b2.cell (p := ⟨_, 4, none⟩) hz0).trans hH1.2.2.2.2⟩ (fun hH2 => ?_)
  clear hK K
  replace hz0 := Nat.lt_of_lt_of_le hz0 b2.size
  replace hzr := Nat.lt_of_lt_of_le hzr b2.size
  refine wpAnyH_take (i := 5) (v := ?_) rfl (by kernel_rfl) (by kernel_rfl) (by kernel_rfl) (fun _ _ _ h => h) (Or.inl ⟨by rfl, ?_⟩) hH2 ?_
  rotate_left
  · ((intro W hW; obtain ⟨s0, s1, s2, s3, s4⟩ := hW; go_simp) <;> with_reducible rfl)
  simp only [sq3, sq4]
  refine wpAnyH_take (i := 6) (v := ?_) rfl (by kernel_rfl) (by kernel_rfl) (by kernel_rfl) (fun _ _ _ h => h) (Or.inl ⟨by rfl, ?_⟩) hH2 ?_
  rotate_left
  · ((intro W hW; obtain ⟨s0, s1, s2, s3, s4⟩ := hW; go_simp) <;> with_reducible rfl)
  simp only [sq3, sq4]
  refine wpAnyH_ready (rs := [7]) (by kernel_rfl) (by simp) ?_
  refine AllReadyH.cons (o := _) rfl (fun K hK => ?_) AllReadyH.nil
  simp only [sq3]
  go_simp
  with_reducible refine (HO.out _).mono ?_
  rintro e v3 ⟨rfl, b3⟩
  dsimp only
  have bel3 := bel2.trans (b3.mono bel2.size)
  have z3 := (b3.block _ hzr).trans z2
  refine hK.out _ _ ⟨(b3.cell (p := ⟨_, 0, none⟩) hz0).trans hH2.1, (b3.cell (p := ⟨_, 1, none⟩) hz0).trans hH2.2.1, (b3.cell (p := ⟨_, 2, none⟩) hz0).trans hH2.2.2.1, (b3.cell (p := ⟨_, 3, none⟩) hz0).trans hH2.2.2.2.1, (b3.cell (p := ⟨_, 4, none⟩) hz0).trans hH2.2.2.2.2⟩ (fun hH3 => ?_)
  clear hK K
  replace hz0 := Nat.lt_of_lt_of_le hz0 b3.size
  obtain ⟨⟨q0, q1, q2, q3⟩, f0, f1, f2, f3⟩ := cells4 z3
  have Z3 := Lib.hid z3
  clear hz z1 z2 z3 b1 b2 b3
  simp only [adr]
  refine wpAnyH_ready (rs := [8]) (by kernel_rfl) (by simp) ?_
  refine AllReadyH.cons (o := _) rfl (fun K hK => ?_) AllReadyH.nil
  simp only [sq3]
  go_simp
  have hne : w.heap.size ≠ w.heap.size + 1 := by omega
  refine hK.out _ _ ⟨keep_cell4 hH3.1 hne, keep_cell4 hH3.2.1 hne, keep_cell4 hH3.2.2.1 hne, keep_cell4 hH3.2.2.2.1 hne, keep_cell4 hH3.2.2.2.2 hne⟩ (fun hH4 => ?_)
  clear hK K
  refine wpAnyH_done (by kernel_rfl) ?_ _
  have R4 := put4 (x := .int .u8 ((f : Int) / 16777216)) (y := .int .u8 ((f : Int) / 65536 % 256)) (z := .int .u8 ((f : Int) / 256 % 256)) (u := .int .u8 ((f : Int) % 256)) Z3.out
  obtain ⟨⟨k0', k1', k2', k3'⟩, _⟩ := cells4 R4
  clear R4
  go_wp2
  exact bodyPost_ret (v := adr f) (by simp [results, Try.results41, go_sem, adr, k0', k1', k2', k3']) rfl ⟨rfl, (((bel3.setCell (by simp) _).setCell (by simp) _).setCell (by simp) _).setCell (by simp) _⟩

set_option maxRecDepth 100000 in
set_option maxHeartbeats 4000000 in
theorem ahas_any (a b c d p1 p2 p3 p4 : UInt8) (bt : Int) (w : World) :
    Calls Try.prog 72 #[.agg #[.int .u8 (a.toNat : Int), .int .u8 (b.toNat : Int), .int .u8 (c.toNat : Int), .int .u8 (d.toNat : Int), .int .i64 bt], .agg #[.int .u8 (p1.toNat : Int), .int .u8 (p2.toNat : Int), .int .u8 (p3.toNat : Int), .int .u8 (p4.toNat : Int)]] w fun e w' => e = .returned (.bool (firstN (be [a, b, c, d]) (clamp bt) == firstN (be [p1, p2, p3, p4]) (clamp bt))) ∧ Below w.heap.size w w' := by
  have hl1 := be_four_lt a b c d
  have hl2 := be_four_lt p1 p2 p3 p4
  have hml := clamp_le bt
  have hkl := maskN_lt (clamp bt)
  have HN1 := Lib.hid fun W => anum_any a b c d W
  have HN2 := Lib.hid fun W => anum_any p1 p2 p3 p4 W
  have HM := Lib.hid fun W => amask_any (.int .u8 (a.toNat : Int)) (.int .u8 (b.toNat : Int)) (.int .u8 (c.toNat : Int)) (.int .u8 (d.toNat : Int)) bt W
  generalize be [a, b, c, d] = n at *
  generalize be [p1, p2, p3, p4] = n2 at *
  obtain ⟨m, hm⟩ : ∃ m, clamp bt = m := ⟨_, rfl⟩
  rw [hm] at hml hkl HM ⊢
  clear hm
  have hxm := xor_mask n2 n m hml hl2 hl1
  have hxl : n2 ^^^ n < 4294967296 := Nat.xor_lt_two_pow (n := 32) hl2 hl1
  have hx := u32_xor_nat n2 n hl2 hl1
  have ha := u32_and_nat (n2 ^^^ n) (maskN m) hxl hkl
  have hres : ((((n2 ^^^ n) &&& maskN m : Nat) : Int) == 0) = (firstN n m == firstN n2 m) := by
    rw [Bool.eq_iff_iff, beq_iff_eq, beq_iff_eq]
    constructor
    · intro h; exact (hxm.1 (by omega)).symm
    · intro h; have := hxm.2 h.symm; omega
  generalize ((n2 ^^^ n) &&& maskN m : Nat) = y at *
  generalize n2 ^^^ n = x at *
  generalize maskN m = k at *
  have HR := Lib.hid hres
  generalize (firstN n m == firstN n2 m) = res at *
  clear hxm hres hl1 hl2 hml hkl hxl
  have hb1 : ((w.alloc (.cells #[.int .u8 (a.toNat : Int), .int .u8 (b.toNat : Int), .int .u8 (c.toNat : Int), .int .u8 (d.toNat : Int), .int .i64 bt] 30)).alloc (.cells #[.int .u8 (p1.toNat : Int), .int .u8 (p2.toNat : Int), .int .u8 (p3.toNat : Int), .int .u8 (p4.toNat : Int)] 28)).heap[w.heap.size + 1]? = some (.cells #[.int .u8 (p1.toNat : Int), .int .u8 (p2.toNat : Int), .int .u8 (p3.toNat : Int), .int .u8 (p4.toNat : Int)] 28 (0, 0)) := by have := heap_alloc_new (w.alloc (.cells #[.int .u8 (a.toNat : Int), .int .u8 (b.toNat : Int), .int .u8 (c.toNat : Int), .int .u8 (d.toNat : Int), .int .i64 bt] 30)) (.cells #[.int .u8 (p1.toNat : Int), .int .u8 (p2.toNat : Int), .int .u8 (p3.toNat : Int), .int .u8 (p4.toNat : Int)] 28); simpa using this
  have hb0 : ((w.alloc (.cells #[.int .u8 (a.toNat : Int), .int .u8 (b.toNat : Int), .int .u8 (c.toNat : Int), .int .u8 (d.toNat : Int), .int .i64 bt] 30)).alloc (.cells #[.int .u8 (p1.toNat : Int), .int .u8 (p2.toNat : Int), .int .u8 (p3.toNat : Int), .int .u8 (p4.toNat : Int)] 28)).heap[w.heap.size]? = some (.cells #[.int .u8 (a.toNat : Int), .int .u8 (b.toNat : Int), .int .u8 (c.toNat : Int), .int .u8 (d.toNat : Int), .int .i64 bt] 30 (0, 0)) := (Go.heap_alloc_old (w.alloc (.cells #[.int .u8 (a.toNat : Int), .int .u8 (b.toNat : Int), .int .u8 (c.toNat : Int), .int .u8 (d.toNat : Int), .int .i64 bt] 30)) (.cells #[.int .u8 (p1.toNat : Int), .int .u8 (p2.toNat : Int), .int .u8 (p3.toNat : Int), .int .u8 (p4.toNat : Int)] 28) (r := w.heap.size) (by simp)).trans (heap_alloc_new w _)
  have bel : Below w.heap.size w ((w.alloc (.cells #[.int .u8 (a.toNat : Int), .int .u8 (b.toNat : Int), .int .u8 (c.toNat : Int), .int .u8 (d.toNat : Int), .int .i64 bt] 30)).alloc (.cells #[.int .u8 (p1.toNat : Int), .int .u8 (p2.toNat : Int), .int .u8 (p3.toNat : Int), .int .u8 (p4.toNat : Int)] 28)) := ((Below.refl _ w).alloc (Nat.le_refl _) _).alloc (by simp) _
  have hz0 : w.heap.size < ((w.alloc (.cells #[.int .u8 (a.toNat : Int), .int .u8 (b.toNat : Int), .int .u8 (c.toNat : Int), .int .u8 (d.toNat : Int), .int .i64 bt] 30)).alloc (.cells #[.int .u8 (p1.toNat : Int), .int .u8 (p2.toNat : Int), .int .u8 (p3.toNat : Int), .int .u8 (p4.toNat : Int)] 28)).heap.size := by simp; omega
  have hz1 : w.heap.size + 1 < ((w.alloc (.cells #[.int .u8 (a.toNat : Int), .int .u8 (b.toNat : Int), .int .u8 (c.toNat : Int), .int .u8 (d.toNat : Int), .int .i64 bt] 30)).alloc (.cells #[.int .u8 (p1.toNat : Int), .int .u8 (p2.toNat : Int), .int .u8 (p3.toNat : Int), .int .u8 (p4.toNat : Int)] 28)).heap.size := by simp
  obtain ⟨⟨s0, s1, s2, s3, s4⟩, _⟩ := cells5 hb0
  obtain ⟨⟨s5, s6, s7, s8⟩, _⟩ := cells4 hb1
  clear hb0 hb1
  go_enter Try.func72, Try.ntmps72
  go_wp2_with fail
  generalize ((w.alloc (.cells #[.int .u8 (a.toNat : Int), .int .u8 (b.toNat : Int), .int .u8 (c.toNat : Int), .int .u8 (d.toNat : Int), .int .i64 bt] 30)).alloc (.cells #[.int .u8 (p1.toNat : Int), .int .u8 (p2.toNat : Int), .int .u8 (p3.toNat : Int), .int .u8 (p4.toNat : Int)] 28)) = w2 at s0 s1 s2 s3 s4 s5 s6 s7 s8 bel hz0 hz1 ⊢
  refine wp_region_held_drew (S := fun W => W.cell? ⟨w.heap.size, 0, none⟩ = some (.int .u8 (a.toNat : Int)) ∧ W.cell? ⟨w.heap.size, 1, none⟩ = some (.int .u8 (b.toNat : Int)) ∧ W.cell? ⟨w.heap.size, 2, none⟩ = some (.int .u8 (c.toNat : Int)) ∧ W.cell? ⟨w.heap.size, 3, none⟩ = some (.int .u8 (d.toNat : Int)) ∧ W.cell? ⟨w.heap.size, 4, none⟩ = some (.int .i64 bt) ∧ W.cell? ⟨w.heap.size + 1, 0, none⟩ = some (.int .u8 (p1.toNat : Int)) ∧ W.cell? ⟨w.heap.size + 1, 1, none⟩ = some (.int .u8 (p2.toNat : Int)) ∧ W.cell? ⟨w.heap.size + 1, 2, none⟩ = some (.int .u8 (p3.toNat : Int)) ∧ W.cell? ⟨w.heap.size + 1, 3, none⟩ = some (.int .u8 (p4.toNat : Int))) (by kernel_rfl) ⟨s0, s1, s2, s3, s4, s5, s6, s7, s8⟩ (fun hH => ?_)
  refine wpAnyH_take (i := 0) (v := ?_) rfl (by kernel_rfl) (by kernel_rfl) (by kernel_rfl) (fun _ _ _ h => h) (Or.inl ⟨by rfl, ?_⟩) hH ?_
  rotate_left
  · ((intro W hW; obtain ⟨s0, s1, s2, s3, s4, s5, s6, s7, s8⟩ := hW; go_simp) <;> with_reducible rfl)
  simp only [Act.put, List.getElem_toArray, List.getElem_cons_zero, List.setIfInBounds_toArray, List.set_cons_zero, List.set_cons_succ]
  refine wpAnyH_take (i := 2) (v := ?_) rfl (by kernel_rfl) (by kernel_rfl) (by kernel_rfl) (fun _ _ _ h => h) (Or.inl ⟨by rfl, ?_⟩) hH ?_
  rotate_left
  · ((intro W hW; obtain ⟨s0, s1, s2, s3, s4, s5, s6, s7, s8⟩ := hW; go_simp) <;> with_reducible rfl)
  simp only [sq3, sq4]
  refine wpAnyH_take (i := 3) (v := ?_) rfl (by kernel_rfl) (by kernel_rfl) (by kernel_rfl) (fun _ _ _ h => h) (Or.inl ⟨by rfl, ?_⟩) hH ?_
  rotate_left
  · ((intro W hW; obtain ⟨s0, s1, s2, s3, s4, s5, s6, s7, s8⟩ := hW; go_simp) <;> with_reducible rfl)
  simp only [sq3, sq4]
  refine wpAnyH_take (i := 6) (v := ?_) rfl (by kernel_rfl) (by kernel_rfl) (by kernel_rfl) (fun _ _ _ h => h) (Or.inl ⟨by rfl, ?_⟩) hH ?_
  rotate_left
  · ((intro W hW; obtain ⟨s0, s1, s2, s3, s4, s5, s6, s7, s8⟩ := hW; go_simp) <;> with_reducible rfl)
  simp only [sq3, sq4]
  refine wpAnyH_ready (rs := [1]) (by kernel_rfl) (by simp) ?_
  refine AllReadyH.cons (o := _) rfl (fun K hK => ?_) AllReadyH.nil
  simp only [sq3]
  go_simp
  with_reducible refine (HN2.out _).mono ?_
  rintro e v1 ⟨rfl, b1⟩
  dsimp only
  have bel1 := bel.drew.trans (b1.mono bel.size)
  refine hK.out _ _ ⟨(b1.cell (p := ⟨_, 0, none⟩) hz0).trans hH.1, (b1.cell (p := ⟨_, 1, none⟩) hz0).trans hH.2.1, (b1.cell (p := ⟨_, 2, none⟩) hz0).trans hH.2.2.1, (b1.cell (p := ⟨_, 3, none⟩) hz0).trans hH.2.2.2.1, (b1.cell (p := ⟨_, 4, none⟩) hz0).trans hH.2.2.2.2.1, (b1.cell (p := ⟨_, 0, none⟩) hz1).trans hH.2.2.2.2.2.1, (b1.cell (p := ⟨_, 1, none⟩) hz1).trans hH.2.2.2.2.2.2.1, (b1.cell (p := ⟨_, 2, none⟩) hz1).trans hH.2.2.2.2.2.2.2.1, (b1.cell (p := ⟨_, 3, none⟩) hz1).trans hH.2.2.2.2.2.2.2.2⟩ (fun hH1 => ?_)
  clear hK K
  replace hz0 := Nat.lt_of_lt_of_le hz0 b1.size
  replace hz1 := Nat.lt_of_lt_of_le hz1 b1.size
  refine wpAnyH_ready (rs := [4]) (by kernel_rfl) (by simp) ?_
  refine AllReadyH.cons (o := _) rfl (fun K hK => ?_) AllReadyH.nil
  simp only [sq3]
  go_simp
  with_reducible refine (HN1.out _).mono ?_
  rintro e v2 ⟨rfl, b2⟩
  dsimp only
  have bel2 := bel1.trans (b2.mono bel1.size)
  refine hK.out _ _ ⟨(b2.cell (p := ⟨_, 0, none⟩) hz0).trans hH1.1, (b2.cell (p := ⟨_, 1, none⟩) hz0).trans hH1.2.1, (b2.cell (p := ⟨_, 2, none⟩) hz0).trans hH1.2.2.1, (b2.cell (p := ⟨_, 3, none⟩) hz0).trans hH1.2.2.2.1, (b2.cell (p := ⟨_, 4, none⟩) hz0).trans hH1.2.2.2.2.1, (b2.cell (p := ⟨_, 0, none⟩) hz1).trans hH1.2.2.2.2.2.1, (b2.cell (p := ⟨_, 1, none⟩) hz1).trans hH1.2.2.2.2.2.2.1, (b2.cell (p := ⟨_, 2, none⟩) hz1).trans hH1.2.2.2.2.2.2.2.1, (b2.cell (p := ⟨_, 3, none⟩) hz1).trans hH1.2.2.2.2.2.2.2.2⟩ (fun hH2 => ?_)
  clear hK K
  replace hz0 := Nat.lt_of_lt_of_le hz0 b2.size
  replace hz1 := Nat.lt_of_lt_of_le hz1 b2.size
  refine wpAnyH_take (i := 5) (v := ?_) rfl (by kernel_rfl) (by kernel_rfl) (by kernel_rfl) (fun _ _ _ h => h) (Or.inl ⟨by rfl, ?_⟩) hH2 ?_
  rotate_left
  · ((intro W hW; obtain ⟨s0, s1, s2, s3, s4, s5, s6, s7, s8⟩ := hW; go_simp) <;> with_reducible rfl)
  simp only [sq3, sq4]
  refine wpAnyH_ready (rs := [7]) (by kernel_rfl) (by simp) ?_
  refine AllReadyH.cons (o := _) rfl (fun K hK => ?_) AllReadyH.nil
  simp only [sq3]
  go_simp
  with_reducible refine (HM.out _).mono ?_
  rintro e v3 ⟨rfl, b3⟩
  dsimp only
  have bel3 := bel2.trans (b3.mono bel2.size)
  refine hK.out _ _ ⟨(b3.cell (p := ⟨_, 0, none⟩) hz0).trans hH2.1, (b3.cell (p := ⟨_, 1, none⟩) hz0).trans hH2.2.1, (b3.cell (p := ⟨_, 2, none⟩) hz0).trans hH2.2.2.1, (b3.cell (p := ⟨_, 3, none⟩) hz0).trans hH2.2.2.2.1, (b3.cell (p := ⟨_, 4, none⟩) hz0).trans hH2.2.2.2.2.1, (b3.cell (p := ⟨_, 0, none⟩) hz1).trans hH2.2.2.2.2.2.1, (b3.cell (p := ⟨_, 1, none⟩) hz1).trans hH2.2.2.2.2.2.2.1, (b3.cell (p := ⟨_, 2, none⟩) hz1).trans hH2.2.2.2.2.2.2.2.1, (b3.cell (p := ⟨_, 3, none⟩) hz1).trans hH2.2.2.2.2.2.2.2.2⟩ (fun hH3 => ?_)
  clear hK K
  replace hz0 := Nat.lt_of_lt_of_le hz0 b3.size
  replace hz1 := Nat.lt_of_lt_of_le hz1 b3.size
  refine wpAnyH_take (i := 8) (v := ?_) rfl (by kernel_rfl) (by kernel_rfl) (by kernel_rfl) (fun _ _ _ h => h) (Or.inl ⟨by rfl, ?_⟩) hH3 ?_
  rotate_left
  · ((intro W hW; obtain ⟨s0, s1, s2, s3, s4, s5, s6, s7, s8⟩ := hW; go_simp) <;> with_reducible rfl)
  simp only [sq3, sq4]
  refine wpAnyH_take (i := 9) (v := ?_) rfl (by kernel_rfl) (by kernel_rfl) (by kernel_rfl) (fun _ _ _ h => h) (Or.inl ⟨by rfl, ?_⟩) hH3 ?_
  rotate_left
  · ((intro W hW; obtain ⟨s0, s1, s2, s3, s4, s5, s6, s7, s8⟩ := hW; go_simp) <;> with_reducible rfl)
  simp only [sq3, sq4]
  refine wpAnyH_take (i := 10) (v := ?_) rfl (by kernel_rfl) (by kernel_rfl) (by kernel_rfl) (fun _ _ _ h => h) (Or.inl ⟨by rfl, ?_⟩) hH3 ?_
  rotate_left
  · ((intro W hW; obtain ⟨s0, s1, s2, s3, s4, s5, s6, s7, s8⟩ := hW; go_simp) <;> with_reducible rfl)
  simp only [sq3, sq4]
  refine wpAnyH_done (by kernel_rfl) ?_ _
  go_wp2
  go_ret
  exact ⟨ret_b HR.out, bel3⟩
end Go.Proofs.Ytapdmlfjohiekaa
