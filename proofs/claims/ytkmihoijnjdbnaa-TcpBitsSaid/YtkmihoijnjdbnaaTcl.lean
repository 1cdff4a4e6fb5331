/- Segments as lists. No program. -/
import Derived.Test.YtkmihoijnjdbnaaUdf
namespace Go.Proofs.Ytkmihoijnjdbnaa
open Go.RowKit

/-- The length of the header that byte 12 tells. -/
def tcH (b : List UInt8) : Nat := (b.getD 12 0).toNat / 16 * 4
/-- The error of Get. -/
def tcErr (fl pt pr : Int) (a0 a1 a2 a3 a4 a5 a6 a7 : UInt8) (b : List UInt8) : Int :=
  if pr ≠ 6 then 1 else if ¬ (pt = 0 ∧ fl % 2 = 0) then 10 else if b.length < 20 then 3 else if tcH b < 20 then 4 else if b.length < tcH b then 3
  else if ck (l4Ps a0 a1 a2 a3 a4 a5 a6 a7 pr (b.length : Int) ++ b) ≠ 0 then 5 else 0
/-- A segment in lists: its numbers, its options, its body; an error. -/
abbrev SgL := List Int × (List UInt8 × List UInt8) × Int
def sgNone (er : Int) : SgL := ([0, 0, 0, 0, 0, 0, 0], ([], []), er)
def tcGet (fl pt pr : Int) (a0 a1 a2 a3 a4 a5 a6 a7 : UInt8) (b : List UInt8) : SgL :=
  if tcErr fl pt pr a0 a1 a2 a3 a4 a5 a6 a7 b ≠ 0 then sgNone (tcErr fl pt pr a0 a1 a2 a3 a4 a5 a6 a7 b)
  else ([(be (b.take 2) : Nat), (be ((b.drop 2).take 2) : Nat), (be ((b.drop 4).take 4) : Nat), (be ((b.drop 8).take 4) : Nat), ((b.getD 13 0).toNat % 64 : Nat), (be ((b.drop 14).take 2) : Nat), (be ((b.drop 18).take 2) : Nat)], ((b.drop 20).take (tcH b - 20), b.drop (tcH b)), 0)
/-- The bytes of a segment: ahead of the sum, the sum, behind it. -/
def tcA (sf st se ak : Int) (nq : Nat) (fg wn : Int) : List UInt8 := two sf ++ two st ++ four se ++ four ak ++ [byteOf (80 + 4 * (nq : Int)), byteOf fg] ++ two wn
def tcSum (a0 a1 a2 a3 a4 a5 a6 a7 : UInt8) (sf st se ak fg wn ug : Int) (q b : List UInt8) : Int :=
  ck [l4Ps a0 a1 a2 a3 a4 a5 a6 a7 6 (20 + (q.length : Int) + (b.length : Int)), tcA sf st se ak q.length fg wn, two ug ++ q ++ b].flatten
def tcBytes (a0 a1 a2 a3 a4 a5 a6 a7 : UInt8) (sf st se ak fg wn ug : Int) (q b : List UInt8) : List UInt8 :=
  tcA sf st se ak q.length fg wn ++ two (tcSum a0 a1 a2 a3 a4 a5 a6 a7 sf st se ak fg wn ug q b) ++ (two ug ++ q ++ b)
def inOk (m v : Int) : Bool := decide (0 ≤ v) && decide (v ≤ m)
def segOk (sf st fg wn ug : Int) (nq : Nat) : Bool := inOk 65535 sf && inOk 65535 st && inOk 63 fg && inOk 65535 wn && inOk 65535 ug && decide (nq ≤ 40) && decide (nq % 4 = 0)
def tcPut (tos id fl pt ttl : Int) (a0 a1 a2 a3 a4 a5 a6 a7 : UInt8) (lo : List UInt8) (sf st se ak fg wn ug : Int) (q b : List UInt8) : PkL :=
  if segOk sf st fg wn ug q.length = false then pkNone 1 else if 1460 < q.length + b.length then pkNone 2 else (([tos, id, fl, pt, ttl, 6], [a0, a1, a2, a3, a4, a5, a6, a7]), (lo, tcBytes a0 a1 a2 a3 a4 a5 a6 a7 sf st se ak fg wn ug q b), 0)
theorem tcA_len (sf st se ak : Int) (nq : Nat) (fg wn : Int) : (tcA sf st se ak nq fg wn).length = 16 := rfl
theorem tcBytes_len (a0 a1 a2 a3 a4 a5 a6 a7 : UInt8) (sf st se ak fg wn ug : Int) (q b : List UInt8) : (tcBytes a0 a1 a2 a3 a4 a5 a6 a7 sf st se ak fg wn ug q b).length = 20 + q.length + b.length := by
  simp [tcBytes, tcA_len, two]
  omega
/-- What Get answers. -/
def SgPost (R : SgL) (w : World) (e : Ending) (w' : World) : Prop :=
  ∃ (f0 f1 f2 f3 f4 f5 f6 : Int) (lq lb : List UInt8) (Aq Ab : Option Addr) (cq cb : Nat) (er : Int), e = .returned (.tuple #[.agg #[.int .i64 f0, .int .i64 f1, .int .u32 f2, .int .u32 f3, .int .i64 f4, .int .i64 f5, .int .i64 f6, .slice Aq lq.length cq, .slice Ab lb.length cb], .int .i64 er]) ∧ Sl w' Aq lq.length cq lq ∧ Sl w' Ab lb.length cb lb ∧ Fr w.heap.size Aq lq.length ∧ Fr w.heap.size Ab lb.length ∧ Below w.heap.size w w' ∧ ([f0, f1, f2, f3, f4, f5, f6], (lq, lb), er) = R
theorem SgPost.none {er : Int} {R : SgL} {w w' : World} (h : sgNone er = R) (b : Below w.heap.size w w') : SgPost R w (.returned (.tuple #[.agg #[.int .i64 0, .int .i64 0, .int .u32 0, .int .u32 0, .int .i64 0, .int .i64 0, .int .i64 0, .slice Option.none 0 0, .slice Option.none 0 0], .int .i64 er])) w' :=
  ⟨0, 0, 0, 0, 0, 0, 0, [], [], Option.none, Option.none, 0, 0, er, rfl, Sl.nil _, Sl.nil _, fun h => absurd h (by simp), fun h => absurd h (by simp), b, h⟩
theorem tc_err {fl pt pr : Int} {a0 a1 a2 a3 a4 a5 a6 a7 : UInt8} {b : List UInt8} {er : Int} (e : tcErr fl pt pr a0 a1 a2 a3 a4 a5 a6 a7 b = er) (h : er ≠ 0) : tcGet fl pt pr a0 a1 a2 a3 a4 a5 a6 a7 b = sgNone er := by
  unfold tcGet
  rw [if_pos (by rw [e]; exact h), e]
theorem tc_at {fl pt : Int} {a0 a1 a2 a3 a4 a5 a6 a7 : UInt8} {h0 h1 h2 h3 h4 h5 h6 h7 h8 h9 h10 h11 h12 h13 h14 h15 h16 h17 h18 h19 : UInt8} {r : List UInt8} {hd : Nat} (hh : h12.toNat / 16 * 4 = hd) (hw : (decide (pt = 0) && decide (fl % 2 = 0)) = true) : tcErr fl pt 6 a0 a1 a2 a3 a4 a5 a6 a7 (h0 :: h1 :: h2 :: h3 :: h4 :: h5 :: h6 :: h7 :: h8 :: h9 :: h10 :: h11 :: h12 :: h13 :: h14 :: h15 :: h16 :: h17 :: h18 :: h19 :: r) =
    if hd < 20 then 4 else if (h0 :: h1 :: h2 :: h3 :: h4 :: h5 :: h6 :: h7 :: h8 :: h9 :: h10 :: h11 :: h12 :: h13 :: h14 :: h15 :: h16 :: h17 :: h18 :: h19 :: r).length < hd then 3 else if ck (l4Ps a0 a1 a2 a3 a4 a5 a6 a7 6 ((h0 :: h1 :: h2 :: h3 :: h4 :: h5 :: h6 :: h7 :: h8 :: h9 :: h10 :: h11 :: h12 :: h13 :: h14 :: h15 :: h16 :: h17 :: h18 :: h19 :: r).length : Int) ++ (h0 :: h1 :: h2 :: h3 :: h4 :: h5 :: h6 :: h7 :: h8 :: h9 :: h10 :: h11 :: h12 :: h13 :: h14 :: h15 :: h16 :: h17 :: h18 :: h19 :: r)) ≠ 0 then 5 else 0 := by
  subst hh
  unfold tcErr
  rw [if_neg (by decide), if_neg (by simpa using hw), if_neg (by simp)]
  rfl
theorem tc_ok {fl pt pr : Int} {a0 a1 a2 a3 a4 a5 a6 a7 : UInt8} {h0 h1 h2 h3 h4 h5 h6 h7 h8 h9 h10 h11 h12 h13 h14 h15 h16 h17 h18 h19 : UInt8} {r : List UInt8} {hd k : Nat} (e : tcErr fl pt pr a0 a1 a2 a3 a4 a5 a6 a7 (h0 :: h1 :: h2 :: h3 :: h4 :: h5 :: h6 :: h7 :: h8 :: h9 :: h10 :: h11 :: h12 :: h13 :: h14 :: h15 :: h16 :: h17 :: h18 :: h19 :: r) = 0) (hh : h12.toNat / 16 * 4 = hd) (hk : hd = k + 20) : tcGet fl pt pr a0 a1 a2 a3 a4 a5 a6 a7 (h0 :: h1 :: h2 :: h3 :: h4 :: h5 :: h6 :: h7 :: h8 :: h9 :: h10 :: h11 :: h12 :: h13 :: h14 :: h15 :: h16 :: h17 :: h18 :: h19 :: r) = ([((be [h0, h1] : Nat) : Int), ((be [h2, h3] : Nat) : Int), ((be [h4, h5, h6, h7] : Nat) : Int), ((be [h8, h9, h10, h11] : Nat) : Int), ((h13.toNat % 64 : Nat) : Int), ((be [h14, h15] : Nat) : Int), ((be [h18, h19] : Nat) : Int)], (r.take k, r.drop k), 0) := by
  unfold tcGet
  rw [if_neg (by rw [e]; decide)]
  have e1 : tcH (h0 :: h1 :: h2 :: h3 :: h4 :: h5 :: h6 :: h7 :: h8 :: h9 :: h10 :: h11 :: h12 :: h13 :: h14 :: h15 :: h16 :: h17 :: h18 :: h19 :: r) - 20 = k := by
    show h12.toNat / 16 * 4 - 20 = k
    omega
  have e2 : tcH (h0 :: h1 :: h2 :: h3 :: h4 :: h5 :: h6 :: h7 :: h8 :: h9 :: h10 :: h11 :: h12 :: h13 :: h14 :: h15 :: h16 :: h17 :: h18 :: h19 :: r) = k + 20 := by
    show h12.toNat / 16 * 4 = k + 20
    omega
  rw [e1, e2]
  have e3 : (h0 :: h1 :: h2 :: h3 :: h4 :: h5 :: h6 :: h7 :: h8 :: h9 :: h10 :: h11 :: h12 :: h13 :: h14 :: h15 :: h16 :: h17 :: h18 :: h19 :: r).drop (k + 20) = r.drop k := rfl
  rw [e3]
  rfl
end Go.Proofs.Ytkmihoijnjdbnaa
