/- The contracts of addr's Num, Of, mask. -/
import Derived.Test.YtdfobilagidmfaaAdrEq
import Derived.Test.YtdfobilagidmfaaRef3p
namespace Go.Proofs.Ytdfobilagidmfaa
open Go.RowKit

theorem ret_k {k : IntKind} {a b : Int} (h : a = b) : Ending.returned (.int k a) = .returned (.int k b) := by rw [h]
theorem idx4 (x0 x1 x2 x3 : Value) (W : World) : (Instr.index 24 (.agg #[x0, x1, x2, x3]) (.int .i64 0)).run Try.prog W = .ok x0 W ∧ (Instr.index 24 (.agg #[x0, x1, x2, x3]) (.int .i64 1)).run Try.prog W = .ok x1 W ∧
    (Instr.index 24 (.agg #[x0, x1, x2, x3]) (.int .i64 2)).run Try.prog W = .ok x2 W ∧ (Instr.index 24 (.agg #[x0, x1, x2, x3]) (.int .i64 3)).run Try.prog W = .ok x3 W := by
  simp [Instr.index, run_underlying Try.underlying24, asIntOf, go_sem]

set_option maxRecDepth 100000 in
set_option maxHeartbeats 1000000 in
theorem anum_any (a b c d : UInt8) (w : World) : Calls Try.prog 54 #[.agg #[.int .u8 (a.toNat : Int), .int .u8 (b.toNat : Int), .int .u8 (c.toNat : Int), .int .u8 (d.toNat : Int)]] w fun e w' => e = .returned (.int .u32 (be [a, b, c, d])) ∧ Below w.heap.size w w' := by
  have bel := (Below.refl w.heap.size w).alloc (Nat.le_refl _) (.cells #[.int .u8 (a.toNat : Int), .int .u8 (b.toNat : Int), .int .u8 (c.toNat : Int), .int .u8 (d.toNat : Int)] 24)
  have i0 := fun W => (idx4 (.int .u8 (a.toNat : Int)) (.int .u8 (b.toNat : Int)) (.int .u8 (c.toNat : Int)) (.int .u8 (d.toNat : Int)) W).1
  have i1 := fun W => (idx4 (.int .u8 (a.toNat : Int)) (.int .u8 (b.toNat : Int)) (.int .u8 (c.toNat : Int)) (.int .u8 (d.toNat : Int)) W).2.1
  have i2 := fun W => (idx4 (.int .u8 (a.toNat : Int)) (.int .u8 (b.toNat : Int)) (.int .u8 (c.toNat : Int)) (.int .u8 (d.toNat : Int)) W).2.2.1
  have i3 := fun W => (idx4 (.int .u8 (a.toNat : Int)) (.int .u8 (b.toNat : Int)) (.int .u8 (c.toNat : Int)) (.int .u8 (d.toNat : Int)) W).2.2.2
  have ha := a.toNat_lt; have hb := b.toNat_lt; have hc := c.toNat_lt; have hd := d.toNat_lt
  have h1 := or_u32 0 a.toNat (by omega) (by omega)
  have h1' : bits .or .u32 0 (a.toNat : Int) = a.toNat := by simpa using h1
  obtain ⟨n2, e2⟩ : ∃ n, n = a.toNat * 256 + b.toNat := ⟨_, rfl⟩
  have h2 : bits .or .u32 ((a.toNat : Int) * 256) (b.toNat : Int) = (n2 : Int) := by rw [e2]; exact or_u32 a.toNat b.toNat (by omega) (by omega)
  have g2 : n2 < 65536 := by omega
  obtain ⟨n3, e3⟩ : ∃ n, n = n2 * 256 + c.toNat := ⟨_, rfl⟩
  have h3 : bits .or .u32 ((n2 : Int) * 256) (c.toNat : Int) = (n3 : Int) := by rw [e3]; exact or_u32 n2 c.toNat (by omega) (by omega)
  have g3 : n3 < 16777216 := by omega
  obtain ⟨n4, e4⟩ : ∃ n, n = n3 * 256 + d.toNat := ⟨_, rfl⟩
  have h4 : bits .or .u32 ((n3 : Int) * 256) (d.toNat : Int) = (n4 : Int) := by rw [e4]; exact or_u32 n3 d.toNat (by omega) (by omega)
  have e : Hid (n4 = be [a, b, c, d]) := Lib.hid (by simp [be, e4, e3, e2])
  clear e2 e3 e4
  have x0 : (0 : Int) ≤ a.toNat := by omega
  have x1 : (a.toNat : Int) < 256 := by omega
  have x2 : (0 : Int) ≤ b.toNat := by omega
  have x3 : (b.toNat : Int) < 256 := by omega
  have x4 : (0 : Int) ≤ c.toNat := by omega
  have x5 : (c.toNat : Int) < 256 := by omega
  have x6 : (0 : Int) ≤ d.toNat := by omega
  have x7 : (d.toNat : Int) < 256 := by omega
  have y0 : (0 : Int) ≤ n2 := by omega
  have y1 : (n2 : Int) < 65536 := by omega
  have y2 : (0 : Int) ≤ n3 := by omega
  have y3 : (n3 : Int) < 16777216 := by omega
  clear h1 ha hb hc hd g2 g3
  go_enter Try.func54, Try.ntmps54
  go_wp2
  refine wp_loop_rounds 5 ?_
  rw [rounds_succ]
  go_wp2_with fail
  rw [rounds_succ]
  go_wp2_with fail
  rw [rounds_succ]
  go_wp2_with fail
  rw [rounds_succ]
  go_wp2_with fail
  rw [rounds_succ]
  go_wp2
  go_ret
  exact ⟨ret_k (congrArg _ e.out), bel⟩

/-- The number of a net's ones. -/
def maskN (m : Nat) : Nat := 4294967296 - 2 ^ (32 - m)
theorem maskN_lt (m : Nat) : maskN m < 4294967296 := by have := Nat.two_pow_pos (32 - m); unfold maskN; omega
theorem mask_shl (m : Nat) (hm : m ≤ 32) : 4294967295 * (2 : Int) ^ (32 - m) % 4294967296 = (maskN m : Int) := by
  have h : ∀ k : Fin 33, 4294967295 * (2 : Int) ^ k.val % 4294967296 = ((4294967296 - 2 ^ k.val : Nat) : Int) := by decide +kernel
  exact h ⟨32 - m, by omega⟩
set_option maxRecDepth 100000 in
theorem amask_any (x0 x1 x2 x3 : Value) (bt : Int) (w : World) : Calls Try.prog 74 #[.agg #[x0, x1, x2, x3, .int .i64 bt]] w fun e w' => e = .returned (.int .u32 (maskN (clamp bt))) ∧ Below w.heap.size w w' := by
  have bel := (Below.refl w.heap.size w).alloc (Nat.le_refl _) (.cells #[x0, x1, x2, x3, .int .i64 bt] 26)
  by_cases h0 : bt < 0
  · have hc : clamp bt = 0 := if_pos h0
    rw [hc]; clear hc
    go_enter Try.func74, Try.ntmps74
    go_wp2
    go_ret
    exact ⟨rfl, bel⟩
  by_cases h1 : 32 < bt
  · have hc : clamp bt = 32 := by unfold clamp; rw [if_neg h0, if_pos h1]
    have b0 : 0 ≤ bt := by omega
    rw [hc]; clear hc h0
    go_enter Try.func74, Try.ntmps74
    go_wp2
    go_ret
    exact ⟨rfl, bel⟩
  · obtain ⟨m, rfl⟩ : ∃ m : Nat, bt = m := ⟨bt.toNat, by omega⟩
    have hc : clamp (m : Int) = m := by unfold clamp; rw [if_neg h0, if_neg h1]; omega
    have hm := mask_shl m (by omega)
    have he : (32 - (m : Int)).toNat = 32 - m := by omega
    have b0 : (0 : Int) ≤ m := by omega
    have b1 : (m : Int) ≤ 32 := by omega
    have b2 : decide (((m : Int)) < 0) = false := decide_eq_false h0
    have b3 : decide ((32 : Int) < m) = false := decide_eq_false h1
    rw [hc]
    generalize maskN m = k at *
    clear h0 h1 hc
    have HM := Lib.hid hm
    clear hm
    go_enter Try.func74, Try.ntmps74
    go_wp2
    go_ret
    exact ⟨ret_k HM.out, bel⟩

theorem aof_any (n : Nat) (w : World) (hn : n < 4294967296) : Calls Try.prog 57 #[.int .u32 (n : Int)] w fun e w' => e = .returned (adr n) ∧ Below w.heap.size w w' := by
  have n0 : (0 : Int) ≤ n := by omega
  have n1 : (n : Int) < 4294967296 := by omega
  go_enter Try.func57, Try.ntmps57
  go_wp2
  exact bodyPost_ret (v := adr n) (by simp [results, Try.results57, go_sem, adr]) rfl ⟨rfl, (Below.refl _ _).alloc (Nat.le_refl _) _⟩
end Go.Proofs.Ytdfobilagidmfaa
