/- DhcpWrites' walk, leaf by leaf. -/
import Derived.Test.YtmljgpefbbifmaaLaw13c
import Derived.OpenShut
namespace Go.Proofs.Ytmljgpefbbifmaa
open Go.RowKit

theorem dhcpWritesF_walk (op hops xid secs flags : Int) (c0 c1 c2 c3 y0 y1 y2 y3 s0 s1 s2 s3 r0 r1 r2 r3 m0 m1 m2 m3 m4 m5 : UInt8) (A : Option Addr) (n c : Nat) (hs : List Oh) (L : OptL) (w : World) (wf : (Lit.int .u32 xid).wf = true) (en : Sle opE 2 w A n c hs) (hbd : Bd w hs L) : Calls Try.prog 5 #[.agg #[.int .i64 op, .int .i64 hops, .int .u32 xid, .int .i64 secs, .int .i64 flags, .int .u8 (c0.toNat : Int), .int .u8 (c1.toNat : Int), .int .u8 (c2.toNat : Int), .int .u8 (c3.toNat : Int), .int .u8 (y0.toNat : Int), .int .u8 (y1.toNat : Int), .int .u8 (y2.toNat : Int), .int .u8 (y3.toNat : Int), .int .u8 (s0.toNat : Int), .int .u8 (s1.toNat : Int), .int .u8 (s2.toNat : Int), .int .u8 (s3.toNat : Int), .int .u8 (r0.toNat : Int), .int .u8 (r1.toNat : Int), .int .u8 (r2.toNat : Int), .int .u8 (r3.toNat : Int), .int .u8 (m0.toNat : Int), .int .u8 (m1.toNat : Int), .int .u8 (m2.toNat : Int), .int .u8 (m3.toNat : Int), .int .u8 (m4.toNat : Int), .int .u8 (m5.toNat : Int), .slice A n c]] w fun e w' => e = .returned (.bool true) ∧ Below w.heap.size w w' :=
  dhcpWrites_walk ⟨op, hops, xid, secs, flags, c0, c1, c2, c3, y0, y1, y2, y3, s0, s1, s2, s3, r0, r1, r2, r3, m0, m1, m2, m3, m4, m5⟩ A n c hs L w en hbd (bounds_u32 wf).1 (Int.lt_add_one_of_le (bounds_u32 wf).2)
end Go.Proofs.Ytmljgpefbbifmaa
