/- The reference's Get of packets. -/
import Derived.Test.YtkmihoijnjdbnaaBlk
import Derived.Test.YtkmihoijnjdbnaaSumc
import Derived.Test.YtkmihoijnjdbnaaSlices
import Derived.Test.YtkmihoijnjdbnaaEth5
import Derived.Test.YtkmihoijnjdbnaaRad
import Derived.Deep.RegionHeld3
namespace Go.Proofs.Ytkmihoijnjdbnaa
open Go.RowKit

/-- A packet of zeros. -/
abbrev packz : Value := .agg #[.int .i64 0, .int .i64 0, .int .i64 0, .int .i64 0, .int .i64 0, .int .i64 0, .int .u8 0, .int .u8 0, .int .u8 0, .int .u8 0, .int .u8 0, .int .u8 0, .int .u8 0, .int .u8 0, .slice none 0 0, .slice none 0 0]
/-- The length of the header that the first byte tells. -/
def hlen (x : UInt8) : Nat := x.toNat % 16 * 4
/-- The error of Get (0: none). -/
def ipErr (l : List UInt8) : Int :=
  if l.length < 20 then 3
  else if (l.getD 0 0).toNat / 16 ≠ 4 ∨ hlen (l.getD 0 0) < 20 then 4
  else if l.length < hlen (l.getD 0 0) then 3
  else if ck (l.take (hlen (l.getD 0 0))) ≠ 0 then 5
  else if be ((l.drop 2).take 2) < hlen (l.getD 0 0) then 4
  else if l.length < be ((l.drop 2).take 2) then 3
  else 0
theorem and8191 (n : Nat) (_ : n < 65536) : bits .and .i64 (n : Int) 8191 = ((n % 8192 : Nat) : Int) := by
  show IntKind.i64.wrap ((BitVec.ofInt 64 (n : Int) &&& BitVec.ofInt 64 8191).toNat : Int) = _
  rw [BitVec.toNat_and, BitVec.ofInt_natCast, BitVec.toNat_ofNat, show (BitVec.ofInt 64 8191).toNat = 2 ^ 13 - 1 from rfl, Nat.and_two_pow_sub_one_eq_mod]
  rw [IntKind.wrap_i64]
  omega
end Go.Proofs.Ytkmihoijnjdbnaa
