/- ICMP messages as lists, and facts on them. No program. -/
import Derived.Test.YtfmllopeeiecjaaUdf
namespace Go.Proofs.Ytfmllopeeiecjaa
open Go.RowKit

def byteOk (v : Int) : Bool := decide (0 ≤ v) && decide (v ≤ 255)
/-- An echo message's Type; an error message's. -/
def echoT (v : Int) : Bool := decide (v = 8) || decide (v = 0)
def faultT (v : Int) : Bool := decide (v = 3) || (decide (v = 11) || decide (v = 12))
/-- The error of Get. -/
def icErr (fl pt pr : Int) (b : List UInt8) : Int :=
  if pr ≠ 1 then 1 else if ¬ (pt = 0 ∧ fl % 2 = 0) then 10 else if b.length < 8 then 3 else if ck b ≠ 0 then 5 else 0
/-- A message in lists: its numbers, its body; an error. -/
abbrev MsL := List Int × List UInt8 × Int
def msNone (er : Int) : MsL := ([0, 0, 0], [], er)
def icGet (fl pt pr : Int) (b : List UInt8) : MsL :=
  if icErr fl pt pr b ≠ 0 then msNone (icErr fl pt pr b)
  else ([((b.getD 0 0).toNat : Int), ((b.getD 1 0).toNat : Int), (be ((b.drop 4).take 4) : Nat)], b.drop 8, 0)
/-- The bytes of a message. -/
def icSum (ty co re : Int) (b : List UInt8) : Int := ck [[byteOf ty, byteOf co], four re ++ b].flatten
def icBytes (ty co re : Int) (b : List UInt8) : List UInt8 := [byteOf ty, byteOf co] ++ two (icSum ty co re b) ++ (four re ++ b)
def icPut (tos id fl pt ttl : Int) (a0 a1 a2 a3 a4 a5 a6 a7 : UInt8) (lo : List UInt8) (ty co re : Int) (b : List UInt8) : PkL :=
  if (byteOk ty && byteOk co) = false then pkNone 1 else if 1472 < b.length then pkNone 2 else (([tos, id, fl, pt, ttl, 1], [a0, a1, a2, a3, a4, a5, a6, a7]), (lo, icBytes ty co re b), 0)
theorem icBytes_len (ty co re : Int) (b : List UInt8) : (icBytes ty co re b).length = 8 + b.length := by
  simp [icBytes, two, four]
  omega
theorem icBytes_eq (ty co re : Int) (b : List UInt8) : icBytes ty co re b = byteOf ty :: byteOf co :: byteOf (icSum ty co re b / 256) :: byteOf (icSum ty co re b) :: byteOf (re / 16777216) :: byteOf (re / 65536) :: byteOf (re / 256) :: byteOf re :: b := rfl
/-- What Get answers. -/
def MsPost (R : MsL) (w : World) (e : Ending) (w' : World) : Prop :=
  ∃ (f0 f1 f2 : Int) (lb : List UInt8) (A : Option Addr) (c : Nat) (er : Int), e = .returned (.tuple #[.agg #[.int .i64 f0, .int .i64 f1, .int .u32 f2, .slice A lb.length c], .int .i64 er]) ∧ Sl w' A lb.length c lb ∧ Fr w.heap.size A lb.length ∧ Below w.heap.size w w' ∧ ([f0, f1, f2], lb, er) = R
theorem MsPost.none {er : Int} {R : MsL} {w w' : World} (h : msNone er = R) (b : Below w.heap.size w w') : MsPost R w (.returned (.tuple #[.agg #[.int .i64 0, .int .i64 0, .int .u32 0, .slice Option.none 0 0], .int .i64 er])) w' :=
  ⟨0, 0, 0, [], Option.none, 0, er, rfl, Sl.nil _, fun h => absurd h (by simp), b, h⟩
theorem ic_err {fl pt pr : Int} {b : List UInt8} {er : Int} (e : icErr fl pt pr b = er) (h : er ≠ 0) : icGet fl pt pr b = msNone er := by
  unfold icGet
  rw [if_pos (by rw [e]; exact h), e]
theorem ic_at {fl pt : Int} {b : List UInt8} (hn : 8 ≤ b.length) (hw : (decide (pt = 0) && decide (fl % 2 = 0)) = true) : icErr fl pt 1 b = if ck b ≠ 0 then 5 else 0 := by
  unfold icErr
  rw [if_neg (by decide), if_neg (by simpa using hw), if_neg (by omega)]
theorem ic_ok {fl pt pr : Int} {h0 h1 h2 h3 h4 h5 h6 h7 : UInt8} {r : List UInt8} (e : icErr fl pt pr (h0 :: h1 :: h2 :: h3 :: h4 :: h5 :: h6 :: h7 :: r) = 0) : icGet fl pt pr (h0 :: h1 :: h2 :: h3 :: h4 :: h5 :: h6 :: h7 :: r) = ([(h0.toNat : Int), (h1.toNat : Int), ((be [h4, h5, h6, h7] : Nat) : Int)], r, 0) := by
  unfold icGet
  rw [if_neg (by rw [e]; decide)]
  rfl
theorem icGet_er (fl pt pr : Int) (b : List UInt8) : (icGet fl pt pr b).2.2 = icErr fl pt pr b := by
  unfold icGet
  split
  · rfl
  · rename_i h
    simp only [ne_eq, Decidable.not_not] at h
    exact h.symm
/-- The whole of it fits. -/
theorem ic_sealed (ty co re : Int) (b : List UInt8) : ck (icBytes ty co re b) = 0 := by
  have hb := ck_bounds [[byteOf ty, byteOf co], four re ++ b].flatten
  have hv := two_val (icSum ty co re b) hb.1 hb.2
  have hs : icSum ty co re b = 65535 - (nrm (ws true ([byteOf ty, byteOf co] ++ (four re ++ b))) : Int) := by
    unfold icSum ck
    rw [show [[byteOf ty, byteOf co], four re ++ b].flatten = [byteOf ty, byteOf co] ++ (four re ++ b) by simp]
  rw [ck_zero]
  rw [show icBytes ty co re b = [byteOf ty, byteOf co] ++ byteOf (icSum ty co re b / 256) :: byteOf (icSum ty co re b) :: (four re ++ b) from rfl, ws_at _ _ _ _ (by simp)]
  rw [ws_even _ _ (by simp)] at hs
  generalize ws true [byteOf ty, byteOf co] = U at *
  generalize ws true (four re ++ b) = V at *
  have h1 := nrm_mod (U + V)
  have h2 := nrm_le (U + V)
  rcases Nat.eq_zero_or_pos (U + V) with h0 | h0
  · rw [h0, nrm_zero] at hs
    omega
  · have h3 := nrm_pos h0
    omega
theorem byte_of {v : Int} (h : byteOk v = true) : 0 ≤ v ∧ v ≤ 255 := by
  unfold byteOk at h
  simpa using h
theorem byte_back {v : Int} (h : byteOk v = true) : ((byteOf v).toNat : Int) = v := by
  have := byte_of h
  rw [byteOf_val]
  omega
theorem be4_four (v : Int) (h0 : 0 ≤ v) (h1 : v < 4294967296) : ((be [byteOf (v / 16777216), byteOf (v / 65536), byteOf (v / 256), byteOf v] : Nat) : Int) = v := by
  have h := be_four v
  unfold four at h
  omega
/-- What was put is read back. -/
theorem ic_back {fl pt : Int} (hw : (decide (pt = 0) && decide (fl % 2 = 0)) = true) {ty co re : Int} (h1 : byteOk ty = true) (h2 : byteOk co = true) (e0 : 0 ≤ re) (e1 : re < 4294967296) (b : List UInt8) : icGet fl pt 1 (icBytes ty co re b) = ([ty, co, re], b, 0) := by
  have hsl := ic_sealed ty co re b
  have e : icErr fl pt 1 (icBytes ty co re b) = 0 := by
    rw [ic_at (by rw [icBytes_len]; omega) hw, if_neg (fun h => h hsl)]
  rw [icBytes_eq] at e ⊢
  rw [ic_ok e, byte_back h1, byte_back h2, be4_four re e0 e1]
/-- One bit turned. -/
theorem ic_spoilt {fl pt : Int} (hw : (decide (pt = 0) && decide (fl % 2 = 0)) = true) (ty co re : Int) (b : List UInt8) (j r : Nat) (x y : UInt8) (hj : (icBytes ty co re b)[j]? = some x) (hr : r < 8) (hy : y.toNat = x.toNat ^^^ 2 ^ r) : icErr fl pt 1 ((icBytes ty co re b).set j y) = 5 := by
  have hsp := seal_spoilt (icBytes ty co re b) j r x y hj hr hy (ic_sealed ty co re b)
  rw [ic_at (by rw [List.length_set, icBytes_len]; omega) hw, if_pos hsp]
theorem icput_pos {tos id fl pt ttl : Int} {a0 a1 a2 a3 a4 a5 a6 a7 : UInt8} {lo : List UInt8} {ty co re : Int} {b : List UInt8} (h : (icPut tos id fl pt ttl a0 a1 a2 a3 a4 a5 a6 a7 lo ty co re b).2.2 = 0) : byteOk ty = true ∧ byteOk co = true ∧ b.length ≤ 1472 := by
  unfold icPut at h
  split at h
  · exact absurd h (by decide)
  · rename_i h1
    split at h
    · exact absurd h (by decide)
    · rename_i h2
      simp only [Bool.not_eq_false, Bool.and_eq_true] at h1
      exact ⟨h1.1, h1.2, by omega⟩
theorem icput_eq {tos id fl pt ttl : Int} {a0 a1 a2 a3 a4 a5 a6 a7 : UInt8} {lo : List UInt8} {ty co re : Int} {b : List UInt8} (h1 : byteOk ty = true) (h2 : byteOk co = true) (h3 : b.length ≤ 1472) : icPut tos id fl pt ttl a0 a1 a2 a3 a4 a5 a6 a7 lo ty co re b = (([tos, id, fl, pt, ttl, 1], [a0, a1, a2, a3, a4, a5, a6, a7]), (lo, icBytes ty co re b), 0) := by
  unfold icPut
  rw [if_neg (by rw [h1, h2]; decide), if_neg (by omega)]
/-- May a message be about a packet from or to an address; about a packet? -/
def hostOk (a b c d : UInt8) : Bool := !([a, b, c, d] == [0, 0, 0, 0]) && decide (a.toNat ≤ 223)
def icMay (pt pr : Int) (a0 a1 a2 a3 a4 a5 a6 a7 : UInt8) (lb : List UInt8) : Bool :=
  !decide (0 < pt) && (hostOk a0 a1 a2 a3 && (hostOk a4 a5 a6 a7 && (!decide (pr = 1) || (decide (8 ≤ lb.length) && echoT ((lb.getD 0 0).toNat : Int)))))
/-- What About answers, of a packet in lists. -/
def icAb (o0 o1 o2 o3 : UInt8) (l : List UInt8) (ty co pt pr : Int) (a0 a1 a2 a3 a4 a5 a6 a7 : UInt8) (lo lb : List UInt8) (er : Int) : PkL :=
  if er ≠ 0 then pkNone er else if icMay pt pr a0 a1 a2 a3 a4 a5 a6 a7 lb = false then pkNone 11 else icPut 0 0 0 0 64 o0 o1 o2 o3 a0 a1 a2 a3 [] ty co 0 (l.take (20 + lo.length + min lb.length 8))
def icAbout (o0 o1 o2 o3 : UInt8) (l : List UInt8) (ty co : Int) : PkL :=
  icAb o0 o1 o2 o3 l ty co ((ipGet l).1.1.getD 3 0) ((ipGet l).1.1.getD 5 0) ((ipGet l).1.2.getD 0 0) ((ipGet l).1.2.getD 1 0) ((ipGet l).1.2.getD 2 0) ((ipGet l).1.2.getD 3 0) ((ipGet l).1.2.getD 4 0) ((ipGet l).1.2.getD 5 0) ((ipGet l).1.2.getD 6 0) ((ipGet l).1.2.getD 7 0) (ipGet l).2.1.1 (ipGet l).2.1.2 (ipGet l).2.2
theorem icAbout_eq (o0 o1 o2 o3 : UInt8) {l : List UInt8} (ty co : Int) {f0 f1 f2 f3 f4 f5 : Int} {a0 a1 a2 a3 a4 a5 a6 a7 : UInt8} {lo lb : List UInt8} {er : Int} (h : ipGet l = (([f0, f1, f2, f3, f4, f5], [a0, a1, a2, a3, a4, a5, a6, a7]), (lo, lb), er)) : icAbout o0 o1 o2 o3 l ty co = icAb o0 o1 o2 o3 l ty co f3 f5 a0 a1 a2 a3 a4 a5 a6 a7 lo lb er := by
  unfold icAbout
  rw [h]
  rfl
end Go.Proofs.Ytfmllopeeiecjaa
