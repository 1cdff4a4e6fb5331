/- Layer 6: ip4's header, Put. -/
import Derived.Test.YtkmihoijnjdbnaaIpe
import Derived.Deep.RegionHeld3
namespace Go.Proofs.Ytkmihoijnjdbnaa
open Go.RowKit

theorem own_drew {w : World} {B : Nat} {e : TypeId} {v : Value} {n : Nat} {xs : List Value} (h : w.ownsRow B e 1 v n xs) : w.drew.ownsRow B e 1 v n xs := h
theorem w16_to (A : Option Addr) (n m c : Nat) (l : List UInt8) (v : Int) (w : World) (hm : n + 2 = m) (hl : Sl w A n c l) (hs : n + 2 ≤ 140737488355328) :
    Calls Try.prog 37 #[.slice A n c, .int .i64 v] w fun e w' => ∃ A' c', e = .returned (.slice A' m c') ∧ Sl w' A' m c' (l ++ two v) ∧ Below w.heap.size w w' := by
  subst hm; exact w16_any A n c l v w hl hs
theorem w16_oto (A : Option Addr) (n m c : Nat) (l : List UInt8) (v0 : Int) (w : World) (hm : n + 2 = m) (hl : Sl w A n c l) (hs : n + 2 ≤ 140737488355328) :
    Calls Try.prog 37 #[.slice A n c, .int .i64 v0] w fun e w' => ∃ v, e = .returned v ∧ w'.ownsRow w.heap.size 5 1 v m ((l ++ two v0).map u8v) ∧ Below w.heap.size w w' := by
  subst hm; exact w16_o A n c l v0 w hl hs
theorem or64 (q : Int) (h0 : 0 ≤ q) (h1 : q < 64) : bits .or .i64 64 q = 64 + q := by
  obtain ⟨k, rfl⟩ : ∃ k : Nat, q = k := ⟨q.toNat, by omega⟩
  show IntKind.i64.wrap ((BitVec.ofInt 64 64 ||| BitVec.ofInt 64 (k : Int)).toNat : Int) = _
  rw [BitVec.toNat_or, BitVec.ofInt_natCast, BitVec.toNat_ofNat, show (BitVec.ofInt 64 64).toNat = 1 * 64 from rfl, Nat.mod_eq_of_lt (by omega)]
  have := Nat.two_pow_add_eq_or_of_lt (i := 6) (b := k) (by omega) 1
  rw [show 1 * 64 ||| k = 64 + k by rw [show (1 * 64 : Nat) = 2 ^ 6 * 1 by rfl]; omega]
  rw [IntKind.wrap_i64]
  omega
theorem or8192 (f p : Int) (f0 : 0 ≤ f) (f1 : f ≤ 7) (p0 : 0 ≤ p) (p1 : p ≤ 8191) : bits .or .i64 (f * 8192) p = f * 8192 + p := by
  obtain ⟨k, rfl⟩ : ∃ k : Nat, f = k := ⟨f.toNat, by omega⟩
  obtain ⟨j, rfl⟩ : ∃ j : Nat, p = j := ⟨p.toNat, by omega⟩
  rw [show (k : Int) * 8192 = ((k * 8192 : Nat) : Int) by omega]
  show IntKind.i64.wrap ((BitVec.ofInt 64 ((k * 8192 : Nat) : Int) ||| BitVec.ofInt 64 (j : Int)).toNat : Int) = _
  rw [BitVec.toNat_or, BitVec.ofInt_natCast, BitVec.ofInt_natCast, BitVec.toNat_ofNat, BitVec.toNat_ofNat, Nat.mod_eq_of_lt (by omega), Nat.mod_eq_of_lt (by omega)]
  have := Nat.two_pow_add_eq_or_of_lt (i := 13) (b := j) (by omega) k
  rw [show k * 8192 ||| j = k * 8192 + j by rw [Nat.mul_comm k 8192, show (8192 : Nat) = 2 ^ 13 by rfl]; omega]
  rw [IntKind.wrap_i64]
  omega
/-- What stands ahead of the sum, and behind it. -/
def hdA (tos id fl pt ttl pr : Int) (no nb : Nat) : List UInt8 := [byteOf (64 + (20 + (no : Int)) / 4), byteOf tos] ++ two (20 + (no : Int) + nb) ++ two id ++ two (fl * 8192 + pt) ++ [byteOf ttl, byteOf pr]
theorem hd_eq (tos id fl pt ttl pr : Int) (a0 a1 a2 a3 a4 a5 a6 a7 : UInt8) (lo lb : List UInt8) :
    hdA tos id fl pt ttl pr lo.length lb.length ++ two (ck [hdA tos id fl pt ttl pr lo.length lb.length, [a0, a1, a2, a3, a4, a5, a6, a7] ++ lo].flatten) ++ ([a0, a1, a2, a3, a4, a5, a6, a7] ++ lo) ++ lb = ipBytes tos id fl pt ttl pr a0 a1 a2 a3 a4 a5 a6 a7 lo lb := by
  have ec : ck (ipHd tos id fl pt ttl pr a0 a1 a2 a3 a4 a5 a6 a7 lo lb.length) = ck [hdA tos id fl pt ttl pr lo.length lb.length, [a0, a1, a2, a3, a4, a5, a6, a7] ++ lo].flatten := by
    refine ck_of_ws ?_
    have e : ipHd tos id fl pt ttl pr a0 a1 a2 a3 a4 a5 a6 a7 lo lb.length = hdA tos id fl pt ttl pr lo.length lb.length ++ 0 :: 0 :: ([a0, a1, a2, a3, a4, a5, a6, a7] ++ lo) := by
      unfold ipHd hdA two
      simp
    rw [e, ws_at _ _ _ _ (by simp [hdA, two]), List.flatten_cons, List.flatten_cons, List.flatten_nil, List.append_nil, ws_even (hdA tos id fl pt ttl pr lo.length lb.length) _ (by simp [hdA, two])]
    simp
  unfold ipBytes
  rw [ec]
  generalize ck [hdA tos id fl pt ttl pr lo.length lb.length, [a0, a1, a2, a3, a4, a5, a6, a7] ++ lo].flatten = s
  unfold ipHd hdA two
  simp
/-- What Put answers: memory of its own. -/
def PutPost (tos id fl pt ttl pr : Int) (a0 a1 a2 a3 a4 a5 a6 a7 : UInt8) (lo lb : List UInt8) (w : World) (e : Ending) (w' : World) : Prop :=
  ∃ (v : Value) (r : List UInt8) (er : Int), e = .returned (.tuple #[v, .int .i64 er]) ∧ w'.ownsRow w.heap.size 5 1 v r.length (r.map u8v) ∧ Below w.heap.size w w' ∧ (r, er) = ipPut tos id fl pt ttl pr a0 a1 a2 a3 a4 a5 a6 a7 lo lb
end Go.Proofs.Ytkmihoijnjdbnaa
