/- Datagrams as lists. No program. -/
import Derived.Test.YtfmllopeeiecjaaIpl
import Derived.Test.YtfmllopeeiecjaaVfs
namespace Go.Proofs.Ytfmllopeeiecjaa
open Go.RowKit

/-- What precedes the data in the sums. -/
def l4Ps (a0 a1 a2 a3 a4 a5 a6 a7 : UInt8) (pr k : Int) : List UInt8 := [a0, a1, a2, a3, a4, a5, a6, a7] ++ [0, byteOf pr] ++ two k
theorem l4Ps_len (a0 a1 a2 a3 a4 a5 a6 a7 : UInt8) (pr k : Int) : (l4Ps a0 a1 a2 a3 a4 a5 a6 a7 pr k).length = 12 := rfl
/-- The error of Get. -/
def udErr (fl pt pr : Int) (a0 a1 a2 a3 a4 a5 a6 a7 : UInt8) (b : List UInt8) : Int :=
  if pr ≠ 17 then 1 else if ¬ (pt = 0 ∧ fl % 2 = 0) then 10 else if b.length < 8 then 3 else if b.length < be ((b.drop 4).take 2) then 3 else if be ((b.drop 4).take 2) < 8 then 4
  else if be ((b.drop 6).take 2) ≠ 0 ∧ ck (l4Ps a0 a1 a2 a3 a4 a5 a6 a7 pr (be ((b.drop 4).take 2) : Nat) ++ b.take (be ((b.drop 4).take 2))) ≠ 0 then 5 else 0
def udGet (fl pt pr : Int) (a0 a1 a2 a3 a4 a5 a6 a7 : UInt8) (b : List UInt8) : (Int × Int) × List UInt8 × Int :=
  if udErr fl pt pr a0 a1 a2 a3 a4 a5 a6 a7 b ≠ 0 then ((0, 0), [], udErr fl pt pr a0 a1 a2 a3 a4 a5 a6 a7 b)
  else (((be (b.take 2) : Nat), (be ((b.drop 2).take 2) : Nat)), (b.drop 8).take (be ((b.drop 4).take 2) - 8), 0)
/-- The bytes of a datagram. -/
def udHd (df dt : Int) (n : Nat) : List UInt8 := two df ++ two dt ++ two (8 + (n : Int))
def udSum (a0 a1 a2 a3 a4 a5 a6 a7 : UInt8) (df dt : Int) (b : List UInt8) : Int :=
  if ck [l4Ps a0 a1 a2 a3 a4 a5 a6 a7 17 (8 + (b.length : Int)), udHd df dt b.length, b].flatten = 0 then 65535 else ck [l4Ps a0 a1 a2 a3 a4 a5 a6 a7 17 (8 + (b.length : Int)), udHd df dt b.length, b].flatten
def udBytes (a0 a1 a2 a3 a4 a5 a6 a7 : UInt8) (df dt : Int) (b : List UInt8) : List UInt8 := udHd df dt b.length ++ two (udSum a0 a1 a2 a3 a4 a5 a6 a7 df dt b) ++ b
def portOk (v : Int) : Bool := decide (0 ≤ v) && decide (v ≤ 65535)
/-- A packet in lists: its numbers, its addresses, its options and body; an error. -/
abbrev PkL := (List Int × List UInt8) × (List UInt8 × List UInt8) × Int
def pkNone (er : Int) : PkL := (([0, 0, 0, 0, 0, 0], [0, 0, 0, 0, 0, 0, 0, 0]), ([], []), er)
def udPut (tos id fl pt ttl : Int) (a0 a1 a2 a3 a4 a5 a6 a7 : UInt8) (lo : List UInt8) (df dt : Int) (b : List UInt8) : PkL :=
  if (portOk df && portOk dt) = false then pkNone 1 else if 1472 < b.length then pkNone 2 else (([tos, id, fl, pt, ttl, 17], [a0, a1, a2, a3, a4, a5, a6, a7]), (lo, udBytes a0 a1 a2 a3 a4 a5 a6 a7 df dt b), 0)
theorem udBytes_len (a0 a1 a2 a3 a4 a5 a6 a7 : UInt8) (df dt : Int) (b : List UInt8) : (udBytes a0 a1 a2 a3 a4 a5 a6 a7 df dt b).length = 8 + b.length := by
  simp [udBytes, udHd, two]
  omega
/-- What Get and Put answer. -/
def UdPost (R : (Int × Int) × List UInt8 × Int) (w : World) (e : Ending) (w' : World) : Prop :=
  ∃ (df dt : Int) (lb : List UInt8) (A : Option Addr) (c : Nat) (er : Int), e = .returned (.tuple #[.agg #[.int .i64 df, .int .i64 dt, .slice A lb.length c], .int .i64 er]) ∧ Sl w' A lb.length c lb ∧ Fr w.heap.size A lb.length ∧ Below w.heap.size w w' ∧ ((df, dt), lb, er) = R
def PkPost (R : PkL) (w : World) (e : Ending) (w' : World) : Prop :=
  ∃ (f0 f1 f2 f3 f4 f5 : Int) (a0 a1 a2 a3 a4 a5 a6 a7 : UInt8) (lo lb : List UInt8) (Ao Ab : Option Addr) (co cb : Nat) (er : Int), e = .returned (.tuple #[.agg #[.int .i64 f0, .int .i64 f1, .int .i64 f2, .int .i64 f3, .int .i64 f4, .int .i64 f5, .int .u8 (a0.toNat : Int), .int .u8 (a1.toNat : Int), .int .u8 (a2.toNat : Int), .int .u8 (a3.toNat : Int), .int .u8 (a4.toNat : Int), .int .u8 (a5.toNat : Int), .int .u8 (a6.toNat : Int), .int .u8 (a7.toNat : Int), .slice Ao lo.length co, .slice Ab lb.length cb], .int .i64 er]) ∧ Sl w' Ao lo.length co lo ∧ Sl w' Ab lb.length cb lb ∧ Fr w.heap.size Ao lo.length ∧ Fr w.heap.size Ab lb.length ∧ Below w.heap.size w w' ∧ (([f0, f1, f2, f3, f4, f5], [a0, a1, a2, a3, a4, a5, a6, a7]), (lo, lb), er) = R
theorem PkPost.none {er : Int} {w w' : World} (b : Below w.heap.size w w') : PkPost (pkNone er) w (.returned (.tuple #[packz, .int .i64 er])) w' :=
  ⟨0, 0, 0, 0, 0, 0, 0, 0, 0, 0, 0, 0, 0, 0, [], [], Option.none, Option.none, 0, 0, er, rfl, Sl.nil _, Sl.nil _, fun h => absurd h (by simp), fun h => absurd h (by simp), b, rfl⟩
theorem UdPost.none {er : Int} {R : (Int × Int) × List UInt8 × Int} {w w' : World} (h : ((0, 0), [], er) = R) (b : Below w.heap.size w w') : UdPost R w (.returned (.tuple #[.agg #[.int .i64 0, .int .i64 0, .slice Option.none 0 0], .int .i64 er])) w' :=
  ⟨0, 0, [], Option.none, 0, er, rfl, Sl.nil _, fun h => absurd h (by simp), b, h⟩
theorem list8 (l : List UInt8) (h : 8 ≤ l.length) : ∃ h0 h1 h2 h3 h4 h5 h6 h7 r, l = h0 :: h1 :: h2 :: h3 :: h4 :: h5 :: h6 :: h7 :: r := by
  rcases l with _ | ⟨x0, l⟩
  · simp at h
  rcases l with _ | ⟨x1, l⟩
  · simp at h
  rcases l with _ | ⟨x2, l⟩
  · simp at h
  rcases l with _ | ⟨x3, l⟩
  · simp at h
  rcases l with _ | ⟨x4, l⟩
  · simp at h
  rcases l with _ | ⟨x5, l⟩
  · simp at h
  rcases l with _ | ⟨x6, l⟩
  · simp at h
  rcases l with _ | ⟨x7, l⟩
  · simp at h
  exact ⟨x0, x1, x2, x3, x4, x5, x6, x7, l, rfl⟩
theorem ud_err {fl pt pr : Int} {a0 a1 a2 a3 a4 a5 a6 a7 : UInt8} {b : List UInt8} {er : Int} (e : udErr fl pt pr a0 a1 a2 a3 a4 a5 a6 a7 b = er) (h : er ≠ 0) : udGet fl pt pr a0 a1 a2 a3 a4 a5 a6 a7 b = ((0, 0), [], er) := by
  unfold udGet
  rw [if_pos (by rw [e]; exact h), e]
theorem ud_at {fl pt : Int} {a0 a1 a2 a3 a4 a5 a6 a7 : UInt8} {h0 h1 h2 h3 h4 h5 h6 h7 : UInt8} {r : List UInt8} {ln sm : Nat} (hln : be [h4, h5] = ln) (hsm : be [h6, h7] = sm) (hw : (decide (pt = 0) && decide (fl % 2 = 0)) = true) : udErr fl pt 17 a0 a1 a2 a3 a4 a5 a6 a7 (h0 :: h1 :: h2 :: h3 :: h4 :: h5 :: h6 :: h7 :: r) =
    if (h0 :: h1 :: h2 :: h3 :: h4 :: h5 :: h6 :: h7 :: r).length < ln then 3 else if ln < 8 then 4 else if sm ≠ 0 ∧ ck (l4Ps a0 a1 a2 a3 a4 a5 a6 a7 17 (ln : Int) ++ (h0 :: h1 :: h2 :: h3 :: h4 :: h5 :: h6 :: h7 :: r).take ln) ≠ 0 then 5 else 0 := by
  subst hln
  subst hsm
  unfold udErr
  rw [if_neg (by decide), if_neg (by simpa using hw), if_neg (by simp)]
  rfl
theorem ud_ok {fl pt pr : Int} {a0 a1 a2 a3 a4 a5 a6 a7 : UInt8} {h0 h1 h2 h3 h4 h5 h6 h7 : UInt8} {r : List UInt8} {ln k : Nat} (e : udErr fl pt pr a0 a1 a2 a3 a4 a5 a6 a7 (h0 :: h1 :: h2 :: h3 :: h4 :: h5 :: h6 :: h7 :: r) = 0) (hl : be [h4, h5] = ln) (hk : ln = k + 8) : udGet fl pt pr a0 a1 a2 a3 a4 a5 a6 a7 (h0 :: h1 :: h2 :: h3 :: h4 :: h5 :: h6 :: h7 :: r) = ((((be [h0, h1] : Nat) : Int), ((be [h2, h3] : Nat) : Int)), r.take k, 0) := by
  unfold udGet
  rw [if_neg (by rw [e]; decide)]
  have e8 : be (List.take 2 (List.drop 4 (h0 :: h1 :: h2 :: h3 :: h4 :: h5 :: h6 :: h7 :: r))) - 8 = k := by
    show be [h4, h5] - 8 = k
    omega
  rw [e8]
  rfl
end Go.Proofs.Ytfmllopeeiecjaa
