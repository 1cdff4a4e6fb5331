/- The reference's AddrText. -/
import Derived.Test.YtdfobilagidmfaaRef3t
namespace Go.Proofs.Ytdfobilagidmfaa
open Go.RowKit

/-- An address's text. -/
def adT (a b c d : UInt8) : List UInt8 := decT a.toNat ++ [46] ++ decT b.toNat ++ [46] ++ decT c.toNat ++ [46] ++ decT d.toNat
theorem add_run (x y : List UInt8) (hx : x.length ≤ 1000) (hy : y.length ≤ 1000) (W : World) : (Op.stringOp .add ⟨x.toArray⟩ ⟨y.toArray⟩).run Try.prog W = .ok (.string ⟨(x ++ y).toArray⟩) W := by
  rw [run_string_add_sum W _ _ (by rw [size_bs', size_bs']; omega), ByteArray.mk_append_mk]
theorem byte_len (a : UInt8) : (decT a.toNat).length ≤ 3 := decT_len 2 _ (by have := a.toNat_lt; omega)

end Go.Proofs.Ytdfobilagidmfaa
