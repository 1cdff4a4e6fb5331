/- Addresses and hardware's addresses as bytes. No program. -/
import Derived.Test.YtjfkeocdojjpgaaNr0
namespace Go.Proofs.Ytjfkeocdojjpgaa
open Go.RowKit

structure Ad4 where
  (a b c d : UInt8)
structure Mc6 where
  (a b c d e f : UInt8)
def Ad4.num (x : Ad4) : Nat := be [x.a, x.b, x.c, x.d]
theorem Ad4.lt (x : Ad4) : x.num < 4294967296 := be_lt 4 _ rfl
def Mc6.l (m : Mc6) : List UInt8 := [m.a, m.b, m.c, m.d, m.e, m.f]
def Mc6.zero : Mc6 := ⟨0, 0, 0, 0, 0, 0⟩
end Go.Proofs.Ytjfkeocdojjpgaa
