/- The contracts of the reference's numbers and nets. -/
import Derived.Test.YthcjepafcemmnaaWalkw
import Derived.Test.YthcjepafcemmnaaNets
import Derived.Test.YthcjepafcemmnaaMemz
import Derived.Lib.Hide
import Derived.Deep.LoopGhost
namespace Go.Proofs.Ythcjepafcemmnaa
open Go.RowKit

/-- An address by its number. -/
def adr (n : Nat) : Value := .agg #[.int .u8 ((n : Int) / 16777216), .int .u8 ((n : Int) / 65536 % 256), .int .u8 ((n : Int) / 256 % 256), .int .u8 ((n : Int) % 256)]

def clamp (b : Int) : Nat := if b < 0 then 0 else if 32 < b then 32 else b.toNat
theorem clamp_le (b : Int) : clamp b ≤ 32 := by unfold clamp; split <;> (try split) <;> omega

theorem made_abcd (a b c d : UInt8) (w : World) : Sl (w.alloc (.cells #[.int .u8 (a.toNat : Int), .int .u8 (b.toNat : Int), .int .u8 (c.toNat : Int), .int .u8 (d.toNat : Int)] 5)) (some ⟨w.heap.size, 0, none⟩) 4 4 [a, b, c, d] := Sl.made w 5 [a, b, c, d] (by simp [maxLen])

theorem rnum_any (a b c d : UInt8) (w : World) : Calls Try.prog 19 #[.agg #[.int .u8 (a.toNat : Int), .int .u8 (b.toNat : Int), .int .u8 (c.toNat : Int), .int .u8 (d.toNat : Int)]] w fun e w' => e = .returned (.int .u32 (be [a, b, c, d])) ∧ Below w.heap.size w w' := by
  have hm := made_abcd a b c d (w.alloc (.cells #[.int .u8 (a.toNat : Int), .int .u8 (b.toNat : Int), .int .u8 (c.toNat : Int), .int .u8 (d.toNat : Int)] 28))
  have bel := ((Below.refl w.heap.size w).alloc (Nat.le_refl _) (.cells #[.int .u8 (a.toNat : Int), .int .u8 (b.toNat : Int), .int .u8 (c.toNat : Int), .int .u8 (d.toNat : Int)] 28)).alloc (by simp) (.cells #[.int .u8 (a.toNat : Int), .int .u8 (b.toNat : Int), .int .u8 (c.toNat : Int), .int .u8 (d.toNat : Int)] 5)
  have hs : (w.alloc (.cells #[.int .u8 (a.toNat : Int), .int .u8 (b.toNat : Int), .int .u8 (c.toNat : Int), .int .u8 (d.toNat : Int)] 28)).heap.size = w.heap.size + 1 := by simp
  rw [hs] at hm
  have ha := fun W (h : Sl W (some ⟨w.heap.size + 1, 0, none⟩) 4 4 [a, b, c, d]) => at32_any _ 4 4 [a, b, c, d] W h (by omega)
  rw [show ([a, b, c, d] : List UInt8).take 4 = [a, b, c, d] from rfl] at ha
  generalize be [a, b, c, d] = n at *
  have HA := Lib.hid ha
  clear ha hs
  go_enter Try.func19, Try.ntmps19
  go_wp2_with fail
  with_reducible refine (HA.out _ hm).mono ?_
  rintro e w1 ⟨rfl, q, rfl⟩
  go_wp2
  go_ret
  exact ⟨rfl, ⟨bel.os, bel.tape, bel.output, bel.size, bel.block⟩⟩

theorem be_four_lt (a b c d : UInt8) : be [a, b, c, d] < 4294967296 := be_lt 4 [a, b, c, d] rfl

theorem clrN_le (n m k : Nat) (h : m ≤ k) : clrN n m k ≤ n := by
  have : n % 2 ^ (32 - k) ≤ n % 2 ^ (32 - m) := by
    rw [← Nat.mod_mod_of_dvd n (Nat.pow_dvd_pow 2 (by omega : 32 - k ≤ 32 - m))]
    exact Nat.mod_le _ _
  have := Nat.div_add_mod n (2 ^ (32 - m))
  unfold clrN; omega
theorem clr_walk (n m k : Nat) (h : m ≤ k) (hk : k < 32) (hn : n < 4294967296) : bits .andNot .u32 (clrN n m k : Int) ((2 : Int) ^ (31 - k) % 4294967296) = (clrN n m (k + 1) : Int) ∧ clrN n m k < 4294967296 := by
  have hle := clrN_le n m k h
  have hp : (2 : Nat) ^ (31 - k) ≤ 2 ^ 31 := Nat.pow_le_pow_right (by omega) (by omega)
  have e : ((2 : Int) ^ (31 - k) % 4294967296) = ((2 ^ (31 - k) : Nat) : Int) := by
    rw [show (2 : Int) ^ (31 - k) = ((2 ^ (31 - k) : Nat) : Int) by simp]
    generalize (2 : Nat) ^ (31 - k) = R at *
    omega
  rw [e, u32_andNot_nat _ _ (by omega) (by omega), (clrN_step n m k h hk (by omega)).1]
  exact ⟨rfl, by omega⟩

theorem set_walk (n m k : Nat) (h : m ≤ k) (hk : k < 32) (hm : m ≤ 32) (hn : n < 4294967296) : bits .or .u32 (setN n m k : Int) ((2 : Int) ^ (31 - k) % 4294967296) = (setN n m (k + 1) : Int) ∧ setN n m k < 4294967296 := by
  obtain ⟨h1, h2⟩ := setN_step n m k h hk hm (by omega)
  have hp : (2 : Nat) ^ (31 - k) ≤ 2 ^ 31 := Nat.pow_le_pow_right (by omega) (by omega)
  have e : ((2 : Int) ^ (31 - k) % 4294967296) = ((2 ^ (31 - k) : Nat) : Int) := by
    rw [show (2 : Int) ^ (31 - k) = ((2 ^ (31 - k) : Nat) : Int) by simp]
    generalize (2 : Nat) ^ (31 - k) = R at *
    omega
  rw [e, u32_or_nat _ _ (by omega) (by omega), h1]
  exact ⟨rfl, by omega⟩

end Go.Proofs.Ythcjepafcemmnaa
