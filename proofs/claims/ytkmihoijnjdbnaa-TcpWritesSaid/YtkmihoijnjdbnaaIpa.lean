/- Layer 6: addr's Num and Of; ip4's pairAt, sizes. -/
import Derived.Test.YtkmihoijnjdbnaaIpl
import Derived.Laws.ResultCell
namespace Go.Proofs.Ytkmihoijnjdbnaa
open Go.RowKit

theorem ret_k {k : IntKind} {a b : Int} (h : a = b) : Ending.returned (.int k a) = .returned (.int k b) := by rw [h]
theorem idx4 (x0 x1 x2 x3 : Value) (W : World) : (Instr.index 24 (.agg #[x0, x1, x2, x3]) (.int .i64 0)).run Try.prog W = .ok x0 W ∧ (Instr.index 24 (.agg #[x0, x1, x2, x3]) (.int .i64 1)).run Try.prog W = .ok x1 W ∧
    (Instr.index 24 (.agg #[x0, x1, x2, x3]) (.int .i64 2)).run Try.prog W = .ok x2 W ∧ (Instr.index 24 (.agg #[x0, x1, x2, x3]) (.int .i64 3)).run Try.prog W = .ok x3 W := by
  simp [Instr.index, run_underlying Try.underlying24, asIntOf, go_sem]

set_option maxRecDepth 100000 in
set_option maxHeartbeats 1000000 in
theorem anum_any (a b c d : UInt8) (w : World) : Calls Try.prog 51 #[.agg #[.int .u8 (a.toNat : Int), .int .u8 (b.toNat : Int), .int .u8 (c.toNat : Int), .int .u8 (d.toNat : Int)]] w fun e w' => e = .returned (.int .u32 (be [a, b, c, d])) ∧ Below w.heap.size w w' := by
  have bel := (Below.refl w.heap.size w).alloc (Nat.le_refl _) (.cells #[.int .u8 (a.toNat : Int), .int .u8 (b.toNat : Int), .int .u8 (c.toNat : Int), .int .u8 (d.toNat : Int)] 24)
  have i0 := fun W => (idx4 (.int .u8 (a.toNat : Int)) (.int .u8 (b.toNat : Int)) (.int .u8 (c.toNat : Int)) (.int .u8 (d.toNat : Int)) W).1
  have i1 := fun W => (idx4 (.int .u8 (a.toNat : Int)) (.int .u8 (b.toNat : Int)) (.int .u8 (c.toNat : Int)) (.int .u8 (d.toNat : Int)) W).2.1
  have i2 := fun W => (idx4 (.int .u8 (a.toNat : Int)) (.int .u8 (b.toNat : Int)) (.int .u8 (c.toNat : Int)) (.int .u8 (d.toNat : Int)) W).2.2.1
  have i3 := fun W => (idx4 (.int .u8 (a.toNat : Int)) (.int .u8 (b.toNat : Int)) (.int .u8 (c.toNat : Int)) (.int .u8 (d.toNat : Int)) W).2.2.2
  have ha := a.toNat_lt; have hb := b.toNat_lt; have hc := c.toNat_lt; have hd := d.toNat_lt
  have h1 := or_u32 0 a.toNat (by omega) (by omega)
  have h1' : bits .or .u32 0 (a.toNat : Int) = a.toNat := by simpa using h1
  obtain ⟨n2, e2⟩ : ∃ n, n = a.toNat * 256 + b.toNat := ⟨_, rfl⟩
  have h2 : bits .or .u32 ((a.toNat : Int) * 256) (b.toNat : Int) = (n2 : Int) := by rw [e2]; exact or_u32 a.toNat b.toNat (by omega) (by omega)
  have g2 : n2 < 65536 := by omega
  obtain ⟨n3, e3⟩ : ∃ n, n = n2 * 256 + c.toNat := ⟨_, rfl⟩
  have h3 : bits .or .u32 ((n2 : Int) * 256) (c.toNat : Int) = (n3 : Int) := by rw [e3]; exact or_u32 n2 c.toNat (by omega) (by omega)
  have g3 : n3 < 16777216 := by omega
  obtain ⟨n4, e4⟩ : ∃ n, n = n3 * 256 + d.toNat := ⟨_, rfl⟩
  have h4 : bits .or .u32 ((n3 : Int) * 256) (d.toNat : Int) = (n4 : Int) := by rw [e4]; exact or_u32 n3 d.toNat (by omega) (by omega)
  have e : Hid (n4 = be [a, b, c, d]) := Lib.hid (by simp [be, e4, e3, e2])
  clear e2 e3 e4
  have x0 : (0 : Int) ≤ a.toNat := by omega
  have x1 : (a.toNat : Int) < 256 := by omega
  have x2 : (0 : Int) ≤ b.toNat := by omega
  have x3 : (b.toNat : Int) < 256 := by omega
  have x4 : (0 : Int) ≤ c.toNat := by omega
  have x5 : (c.toNat : Int) < 256 := by omega
  have x6 : (0 : Int) ≤ d.toNat := by omega
  have x7 : (d.toNat : Int) < 256 := by omega
  have y0 : (0 : Int) ≤ n2 := by omega
  have y1 : (n2 : Int) < 65536 := by omega
  have y2 : (0 : Int) ≤ n3 := by omega
  have y3 : (n3 : Int) < 16777216 := by omega
  clear h1 ha hb hc hd g2 g3
  go_enter Try.func51, Try.ntmps51
  go_wp2
  refine wp_loop_rounds 5 ?_
  rw [rounds_succ]
  go_wp2_with fail
  rw [rounds_succ]
  go_wp2_with fail
  rw [rounds_succ]
  go_wp2_with fail
  rw [rounds_succ]
  go_wp2_with fail
  rw [rounds_succ]
  go_wp2
  go_ret
  exact ⟨ret_k (congrArg _ e.out), bel⟩

/-- An address out of four bytes' number. -/
theorem four_of (p0 p1 p2 p3 : UInt8) : ((be [p0, p1, p2, p3] : Nat) : Int) / 16777216 = p0.toNat ∧ ((be [p0, p1, p2, p3] : Nat) : Int) / 65536 % 256 = p1.toNat ∧ ((be [p0, p1, p2, p3] : Nat) : Int) / 256 % 256 = p2.toNat ∧ ((be [p0, p1, p2, p3] : Nat) : Int) % 256 = p3.toNat := by
  have h0 := p0.toNat_lt; have h1 := p1.toNat_lt; have h2 := p2.toNat_lt; have h3 := p3.toNat_lt
  have e : be [p0, p1, p2, p3] = ((p0.toNat * 256 + p1.toNat) * 256 + p2.toNat) * 256 + p3.toNat := by simp [be]
  rw [e]
  generalize p0.toNat = a at *
  generalize p1.toNat = b at *
  generalize p2.toNat = c at *
  generalize p3.toNat = d at *
  omega
end Go.Proofs.Ytkmihoijnjdbnaa
