/- Addresses as values: equal or not; and by their number. -/
import Derived.Test.YtdfobilagidmfaaRefn
import Derived.Stop.BytesEq
namespace Go.Proofs.Ytdfobilagidmfaa
open Go.RowKit

theorem be_abcd (a b c d : UInt8) : be [a, b, c, d] = a.toNat * 16777216 + b.toNat * 65536 + c.toNat * 256 + d.toNat := by
  simp [be]; omega
theorem adr_be (a b c d : UInt8) : adr (be [a, b, c, d]) = .agg #[.int .u8 (a.toNat : Int), .int .u8 (b.toNat : Int), .int .u8 (c.toNat : Int), .int .u8 (d.toNat : Int)] := by
  have := a.toNat_lt; have := b.toNat_lt; have := c.toNat_lt; have := d.toNat_lt
  rw [be_abcd]
  unfold adr
  have e1 : ((a.toNat * 16777216 + b.toNat * 65536 + c.toNat * 256 + d.toNat : Nat) : Int) / 16777216 = a.toNat := by omega
  have e2 : ((a.toNat * 16777216 + b.toNat * 65536 + c.toNat * 256 + d.toNat : Nat) : Int) / 65536 % 256 = b.toNat := by omega
  have e3 : ((a.toNat * 16777216 + b.toNat * 65536 + c.toNat * 256 + d.toNat : Nat) : Int) / 256 % 256 = c.toNat := by omega
  have e4 : ((a.toNat * 16777216 + b.toNat * 65536 + c.toNat * 256 + d.toNat : Nat) : Int) % 256 = d.toNat := by omega
  rw [e1, e2, e3, e4]
theorem be_inj (a b c d a' b' c' d' : UInt8) : be [a, b, c, d] = be [a', b', c', d'] ↔ [a, b, c, d] = [a', b', c', d'] := by
  have := a.toNat_lt; have := b.toNat_lt; have := c.toNat_lt; have := d.toNat_lt
  have := a'.toNat_lt; have := b'.toNat_lt; have := c'.toNat_lt; have := d'.toNat_lt
  rw [be_abcd, be_abcd]
  constructor
  · intro h
    have e1 : a = a' := UInt8.toNat_inj.1 (by omega)
    have e2 : b = b' := UInt8.toNat_inj.1 (by omega)
    have e3 : c = c' := UInt8.toNat_inj.1 (by omega)
    have e4 : d = d' := UInt8.toNat_inj.1 (by omega)
    rw [e1, e2, e3, e4]
  · intro h
    simp only [List.cons.injEq, and_true] at h
    rw [h.1, h.2.1, h.2.2.1, h.2.2.2]
/-- Every number below 2^32 is four bytes'. -/
theorem be_onto (n : Nat) (h : n < 4294967296) : ∃ a b c d : UInt8, n = be [a, b, c, d] := by
  refine ⟨UInt8.ofNat (n / 16777216), UInt8.ofNat (n / 65536), UInt8.ofNat (n / 256), UInt8.ofNat n, ?_⟩
  rw [be_abcd, UInt8.toNat_ofNat', UInt8.toNat_ofNat', UInt8.toNat_ofNat', UInt8.toNat_ofNat']
  omega

theorem eql_adr (n k : Nat) (hn : n < 4294967296) (hk : k < 4294967296) (w : World) : (binOp .eql 24 (adr n) (adr k)).run Try.prog w = .ok (.bool (n == k)) w := by
  obtain ⟨a, b, c, d, rfl⟩ := be_onto n hn
  obtain ⟨a', b', c', d', rfl⟩ := be_onto k hk
  rw [adr_be, adr_be]
  have h := run_eql_bytes (P := Try.prog) w 24 5 4 (by kernel_rfl) (by kernel_rfl) (fun w => by kernel_rfl) [a, b, c, d] [a', b', c', d'] rfl rfl
  have e : (be [a, b, c, d] == be [a', b', c', d']) = ([a, b, c, d] == [a', b', c', d']) := by
    rw [Bool.eq_iff_iff, beq_iff_eq, beq_iff_eq]; exact be_inj ..
  rw [e]
  exact h
theorem neq_adr (n k : Nat) (hn : n < 4294967296) (hk : k < 4294967296) (w : World) : (binOp .neq 24 (adr n) (adr k)).run Try.prog w = .ok (.bool (!(n == k))) w := by
  have h := eql_adr n k hn hk w
  unfold adr at h ⊢
  rw [run_eql_struct] at h
  rw [run_neq_struct]
  revert h
  generalize (Op.equalIn 10000 24 (.agg #[.int .u8 ((n : Int) / 16777216), .int .u8 ((n : Int) / 65536 % 256), .int .u8 ((n : Int) / 256 % 256), .int .u8 ((n : Int) % 256)]) (.agg #[.int .u8 ((k : Int) / 16777216), .int .u8 ((k : Int) / 65536 % 256), .int .u8 ((k : Int) / 256 % 256), .int .u8 ((k : Int) % 256)])).run Try.prog w = r
  intro h
  cases r <;> simp_all [Result.andThen]
theorem guard_adr (op : BinOp) (x y : Operand) (n k : Nat) (w : World) : (eqGuard op 24 x y (adr n) (adr k)).run Try.prog w = .ok () w := by
  unfold adr; exact run_eqGuard_agg w op 24 x y _ _ (by kernel_rfl)
end Go.Proofs.Ytdfobilagidmfaa
