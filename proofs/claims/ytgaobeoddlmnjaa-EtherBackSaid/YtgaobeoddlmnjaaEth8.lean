/- Get and Put whatever comes in, ether's and the reference's; what the statements' own functions answer. -/
import Derived.Test.YtgaobeoddlmnjaaEth6
import Derived.Test.YtgaobeoddlmnjaaEth7
namespace Go.Proofs.Ytgaobeoddlmnjaa
open Go.RowKit

/-- What bytes are as a frame: the twelve bytes of the addresses, the type, the body, the error. -/
def getF (l : List UInt8) : (List UInt8 × Int) × (List UInt8 × Int) :=
  if 1514 < l.length then (([0, 0, 0, 0, 0, 0, 0, 0, 0, 0, 0, 0], 0), ([], 2))
  else if l.length < 14 then (([0, 0, 0, 0, 0, 0, 0, 0, 0, 0, 0, 0], 0), ([], 3))
  else ((l.take 12, (be ((l.drop 12).take 2) : Nat)), (l.drop 14, 0))
theorem list14 : ∀ l : List UInt8, 14 ≤ l.length → ∃ a0 a1 a2 a3 a4 a5 m0 m1 m2 m3 m4 m5 x y r, l = a0 :: a1 :: a2 :: a3 :: a4 :: a5 :: m0 :: m1 :: m2 :: m3 :: m4 :: m5 :: x :: y :: r
  | _ :: _ :: _ :: _ :: _ :: _ :: _ :: _ :: _ :: _ :: _ :: _ :: _ :: _ :: _, _ => ⟨_, _, _, _, _, _, _, _, _, _, _, _, _, _, _, rfl⟩
/-- What Get answers. -/
def GetPost (l : List UInt8) (w : World) (e : Ending) (w' : World) : Prop :=
  ∃ (a0 a1 a2 a3 a4 a5 m0 m1 m2 m3 m4 m5 : UInt8) (t : Int) (A' : Option Addr) (c' : Nat) (r : List UInt8) (er : Int), e = .returned (.tuple #[.agg #[.int .u8 (a0.toNat : Int), .int .u8 (a1.toNat : Int), .int .u8 (a2.toNat : Int), .int .u8 (a3.toNat : Int), .int .u8 (a4.toNat : Int), .int .u8 (a5.toNat : Int), .int .u8 (m0.toNat : Int), .int .u8 (m1.toNat : Int), .int .u8 (m2.toNat : Int), .int .u8 (m3.toNat : Int), .int .u8 (m4.toNat : Int), .int .u8 (m5.toNat : Int), .int .i64 t, .slice A' r.length c'], .int .i64 er]) ∧ Sl w' A' r.length c' r ∧ Below w.heap.size w w' ∧ (([a0, a1, a2, a3, a4, a5, m0, m1, m2, m3, m4, m5], t), (r, er)) = getF l
def PutF (la lb : List UInt8) (t : Int) (l : List UInt8) : List UInt8 × Int :=
  if 1500 < l.length then ([], 2) else if t < 0 ∨ 65535 < t then ([], 1) else (la ++ (lb ++ (two t ++ l)), 0)
/-- What Put answers. -/
def PutPost (la lb : List UInt8) (t : Int) (l : List UInt8) (w : World) (e : Ending) (w' : World) : Prop :=
  ∃ (A' : Option Addr) (c' : Nat) (r : List UInt8) (er : Int), e = .returned (.tuple #[.slice A' r.length c', .int .i64 er]) ∧ Sl w' A' r.length c' r ∧ Below w.heap.size w w' ∧ (r, er) = PutF la lb t l

theorem eget_any (A : Option Addr) (n c : Nat) (l : List UInt8) (w : World) (hl : Sl w A n c l) : Calls Try.prog 9 #[.slice A n c] w (GetPost l w) := by
  have hn := hl.1
  by_cases h1 : 1514 < n
  · refine (eget_long A n c w h1).mono ?_
    rintro e w' ⟨rfl, bel⟩
    exact ⟨0, 0, 0, 0, 0, 0, 0, 0, 0, 0, 0, 0, 0, none, 0, [], 2, rfl, Sl.nil w', bel, by unfold getF; rw [if_pos (by omega)]⟩
  by_cases h2 : n < 14
  · refine (eget_short A n c w h2).mono ?_
    rintro e w' ⟨rfl, bel⟩
    exact ⟨0, 0, 0, 0, 0, 0, 0, 0, 0, 0, 0, 0, 0, none, 0, [], 3, rfl, Sl.nil w', bel, by unfold getF; rw [if_neg (by omega), if_pos (by omega)]⟩
  obtain ⟨a0, a1, a2, a3, a4, a5, m0, m1, m2, m3, m4, m5, x, y, r, rfl⟩ := list14 l (by omega)
  refine (eget_ok A n c a0 a1 a2 a3 a4 a5 m0 m1 m2 m3 m4 m5 x y r w hl (by omega)).mono ?_
  rintro e w' ⟨A', c', rfl, hs, bel⟩
  exact ⟨a0, a1, a2, a3, a4, a5, m0, m1, m2, m3, m4, m5, _, A', c', r, 0, rfl, hs, bel, by unfold getF; rw [if_neg (by omega), if_neg (by omega)]; rfl⟩

theorem rget_any (A : Option Addr) (n c : Nat) (l : List UInt8) (w : World) (hl : Sl w A n c l) : Calls Try.prog 13 #[.slice A n c] w (GetPost l w) := by
  have hn := hl.1
  by_cases h1 : 1514 < n
  · refine (rget_long A n c w h1).mono ?_
    rintro e w' ⟨rfl, bel⟩
    exact ⟨0, 0, 0, 0, 0, 0, 0, 0, 0, 0, 0, 0, 0, none, 0, [], 2, rfl, Sl.nil w', bel, by unfold getF; rw [if_pos (by omega)]⟩
  by_cases h2 : n < 14
  · refine (rget_short A n c w h2).mono ?_
    rintro e w' ⟨rfl, bel⟩
    exact ⟨0, 0, 0, 0, 0, 0, 0, 0, 0, 0, 0, 0, 0, none, 0, [], 3, rfl, Sl.nil w', bel, by unfold getF; rw [if_neg (by omega), if_pos (by omega)]⟩
  obtain ⟨a0, a1, a2, a3, a4, a5, m0, m1, m2, m3, m4, m5, x, y, r, rfl⟩ := list14 l (by omega)
  refine (rget_ok A n c a0 a1 a2 a3 a4 a5 m0 m1 m2 m3 m4 m5 x y r w hl (by omega)).mono ?_
  rintro e w' ⟨A', c', rfl, hs, bel⟩
  exact ⟨a0, a1, a2, a3, a4, a5, m0, m1, m2, m3, m4, m5, _, A', c', r, 0, rfl, hs, bel, by unfold getF; rw [if_neg (by omega), if_neg (by omega)]; rfl⟩

theorem eput_any (a0 a1 a2 a3 a4 a5 m0 m1 m2 m3 m4 m5 : UInt8) (t : Int) (S : Option Addr) (n c : Nat) (l : List UInt8) (w : World) (hl : Sl w S n c l) : Calls Try.prog 10 #[.agg #[.int .u8 (a0.toNat : Int), .int .u8 (a1.toNat : Int), .int .u8 (a2.toNat : Int), .int .u8 (a3.toNat : Int), .int .u8 (a4.toNat : Int), .int .u8 (a5.toNat : Int), .int .u8 (m0.toNat : Int), .int .u8 (m1.toNat : Int), .int .u8 (m2.toNat : Int), .int .u8 (m3.toNat : Int), .int .u8 (m4.toNat : Int), .int .u8 (m5.toNat : Int), .int .i64 t, .slice S n c]] w (PutPost [a0, a1, a2, a3, a4, a5] [m0, m1, m2, m3, m4, m5] t l w) := by
  have hn := hl.1
  by_cases h1 : 1500 < n
  · refine (eput_long a0 a1 a2 a3 a4 a5 m0 m1 m2 m3 m4 m5 t S n c w h1).mono ?_
    rintro e w' ⟨rfl, bel⟩
    exact ⟨none, 0, [], 2, rfl, Sl.nil w', bel, by unfold PutF; rw [if_pos (by omega)]⟩
  by_cases h2 : t < 0
  · refine (eput_neg a0 a1 a2 a3 a4 a5 m0 m1 m2 m3 m4 m5 t S n c w (by omega) h2).mono ?_
    rintro e w' ⟨rfl, bel⟩
    exact ⟨none, 0, [], 1, rfl, Sl.nil w', bel, by unfold PutF; rw [if_neg (by omega), if_pos (.inl h2)]⟩
  by_cases h3 : 65535 < t
  · refine (eput_big a0 a1 a2 a3 a4 a5 m0 m1 m2 m3 m4 m5 t S n c w (by omega) h3).mono ?_
    rintro e w' ⟨rfl, bel⟩
    exact ⟨none, 0, [], 1, rfl, Sl.nil w', bel, by unfold PutF; rw [if_neg (by omega), if_pos (.inr h3)]⟩
  refine (eput_ok a0 a1 a2 a3 a4 a5 m0 m1 m2 m3 m4 m5 t S n c l w hl (by omega) (by omega) (by omega)).mono ?_
  rintro e w' ⟨A', c', rfl, hs, bel⟩
  have e1 : 14 + n = ([a0, a1, a2, a3, a4, a5] ++ ([m0, m1, m2, m3, m4, m5] ++ (two t ++ l))).length := hs.1.symm
  refine ⟨A', c', [a0, a1, a2, a3, a4, a5] ++ ([m0, m1, m2, m3, m4, m5] ++ (two t ++ l)), 0, by rw [e1], by rw [← e1]; exact hs, bel, ?_⟩
  unfold PutF
  rw [if_neg (by omega), if_neg (by omega)]

theorem rput_any (a0 a1 a2 a3 a4 a5 m0 m1 m2 m3 m4 m5 : UInt8) (t : Int) (S : Option Addr) (n c : Nat) (l : List UInt8) (w : World) (hl : Sl w S n c l) : Calls Try.prog 14 #[.agg #[.int .u8 (a0.toNat : Int), .int .u8 (a1.toNat : Int), .int .u8 (a2.toNat : Int), .int .u8 (a3.toNat : Int), .int .u8 (a4.toNat : Int), .int .u8 (a5.toNat : Int), .int .u8 (m0.toNat : Int), .int .u8 (m1.toNat : Int), .int .u8 (m2.toNat : Int), .int .u8 (m3.toNat : Int), .int .u8 (m4.toNat : Int), .int .u8 (m5.toNat : Int), .int .i64 t, .slice S n c]] w (PutPost [a0, a1, a2, a3, a4, a5] [m0, m1, m2, m3, m4, m5] t l w) := by
  have hn := hl.1
  by_cases h1 : 1500 < n
  · refine (rput_long a0 a1 a2 a3 a4 a5 m0 m1 m2 m3 m4 m5 t S n c w h1).mono ?_
    rintro e w' ⟨rfl, bel⟩
    exact ⟨none, 0, [], 2, rfl, Sl.nil w', bel, by unfold PutF; rw [if_pos (by omega)]⟩
  by_cases h2 : t < 0
  · refine (rput_neg a0 a1 a2 a3 a4 a5 m0 m1 m2 m3 m4 m5 t S n c w (by omega) h2).mono ?_
    rintro e w' ⟨rfl, bel⟩
    exact ⟨none, 0, [], 1, rfl, Sl.nil w', bel, by unfold PutF; rw [if_neg (by omega), if_pos (.inl h2)]⟩
  by_cases h3 : 65535 < t
  · refine (rput_big a0 a1 a2 a3 a4 a5 m0 m1 m2 m3 m4 m5 t S n c w (by omega) h3).mono ?_
    rintro e w' ⟨rfl, bel⟩
    exact ⟨none, 0, [], 1, rfl, Sl.nil w', bel, by unfold PutF; rw [if_neg (by omega), if_pos (.inr h3)]⟩
  refine (rput_ok a0 a1 a2 a3 a4 a5 m0 m1 m2 m3 m4 m5 t S n c l w hl (by omega) (by omega) (by omega)).mono ?_
  rintro e w' ⟨A', c', rfl, hs, bel⟩
  have e1 : 14 + n = ([a0, a1, a2, a3, a4, a5] ++ ([m0, m1, m2, m3, m4, m5] ++ (two t ++ l))).length := hs.1.symm
  refine ⟨A', c', [a0, a1, a2, a3, a4, a5] ++ ([m0, m1, m2, m3, m4, m5] ++ (two t ++ l)), 0, by rw [e1], by rw [← e1]; exact hs, bel, ?_⟩
  unfold PutF
  rw [if_neg (by omega), if_neg (by omega)]

set_option maxRecDepth 100000 in
set_option maxHeartbeats 1000000 in
theorem own4_any (a0 a1 a2 a3 a4 a5 m0 m1 m2 m3 m4 m5 : UInt8) (t : Int) (S : Option Addr) (n c : Nat) (w : World) : Calls Try.prog 15 #[.agg #[.int .u8 (a0.toNat : Int), .int .u8 (a1.toNat : Int), .int .u8 (a2.toNat : Int), .int .u8 (a3.toNat : Int), .int .u8 (a4.toNat : Int), .int .u8 (a5.toNat : Int), .int .u8 (m0.toNat : Int), .int .u8 (m1.toNat : Int), .int .u8 (m2.toNat : Int), .int .u8 (m3.toNat : Int), .int .u8 (m4.toNat : Int), .int .u8 (m5.toNat : Int), .int .i64 t, .slice S n c]] w fun e w' => e = .returned (.agg #[.int .u8 (a0.toNat : Int), .int .u8 (a1.toNat : Int), .int .u8 (a2.toNat : Int), .int .u8 (a3.toNat : Int), .int .u8 (a4.toNat : Int), .int .u8 (a5.toNat : Int), .int .u8 (m0.toNat : Int), .int .u8 (m1.toNat : Int), .int .u8 (m2.toNat : Int), .int .u8 (m3.toNat : Int), .int .u8 (m4.toNat : Int), .int .u8 (m5.toNat : Int), .int .i64 t, .slice S n c]) ∧ Below w.heap.size w w' := by
  have hp := heap_alloc_new w (.cells #[.int .u8 (a0.toNat : Int), .int .u8 (a1.toNat : Int), .int .u8 (a2.toNat : Int), .int .u8 (a3.toNat : Int), .int .u8 (a4.toNat : Int), .int .u8 (a5.toNat : Int), .int .u8 (m0.toNat : Int), .int .u8 (m1.toNat : Int), .int .u8 (m2.toNat : Int), .int .u8 (m3.toNat : Int), .int .u8 (m4.toNat : Int), .int .u8 (m5.toNat : Int), .int .i64 t, .slice S n c] 27)
  have zp : w.heap.size < (w.alloc (.cells #[.int .u8 (a0.toNat : Int), .int .u8 (a1.toNat : Int), .int .u8 (a2.toNat : Int), .int .u8 (a3.toNat : Int), .int .u8 (a4.toNat : Int), .int .u8 (a5.toNat : Int), .int .u8 (m0.toNat : Int), .int .u8 (m1.toNat : Int), .int .u8 (m2.toNat : Int), .int .u8 (m3.toNat : Int), .int .u8 (m4.toNat : Int), .int .u8 (m5.toNat : Int), .int .i64 t, .slice S n c] 27)).heap.size := by simp
  have hp1 := (Go.heap_alloc_old (w.alloc (.cells #[.int .u8 (a0.toNat : Int), .int .u8 (a1.toNat : Int), .int .u8 (a2.toNat : Int), .int .u8 (a3.toNat : Int), .int .u8 (a4.toNat : Int), .int .u8 (a5.toNat : Int), .int .u8 (m0.toNat : Int), .int .u8 (m1.toNat : Int), .int .u8 (m2.toNat : Int), .int .u8 (m3.toNat : Int), .int .u8 (m4.toNat : Int), .int .u8 (m5.toNat : Int), .int .i64 t, .slice S n c] 27)) (.cells #[.int .u8 0, .int .u8 0, .int .u8 0, .int .u8 0, .int .u8 0, .int .u8 0, .int .u8 0, .int .u8 0, .int .u8 0, .int .u8 0, .int .u8 0, .int .u8 0, .int .i64 0, .slice none 0 0] 35) (r := w.heap.size) zp).trans hp
  have hq : ((w.alloc (.cells #[.int .u8 (a0.toNat : Int), .int .u8 (a1.toNat : Int), .int .u8 (a2.toNat : Int), .int .u8 (a3.toNat : Int), .int .u8 (a4.toNat : Int), .int .u8 (a5.toNat : Int), .int .u8 (m0.toNat : Int), .int .u8 (m1.toNat : Int), .int .u8 (m2.toNat : Int), .int .u8 (m3.toNat : Int), .int .u8 (m4.toNat : Int), .int .u8 (m5.toNat : Int), .int .i64 t, .slice S n c] 27)).alloc (.cells #[.int .u8 (a0.toNat : Int), .int .u8 (a1.toNat : Int), .int .u8 (a2.toNat : Int), .int .u8 (a3.toNat : Int), .int .u8 (a4.toNat : Int), .int .u8 (a5.toNat : Int), .int .u8 (m0.toNat : Int), .int .u8 (m1.toNat : Int), .int .u8 (m2.toNat : Int), .int .u8 (m3.toNat : Int), .int .u8 (m4.toNat : Int), .int .u8 (m5.toNat : Int), .int .i64 t, .slice S n c] 35)).heap[w.heap.size + 1]? = some (.cells #[.int .u8 (a0.toNat : Int), .int .u8 (a1.toNat : Int), .int .u8 (a2.toNat : Int), .int .u8 (a3.toNat : Int), .int .u8 (a4.toNat : Int), .int .u8 (a5.toNat : Int), .int .u8 (m0.toNat : Int), .int .u8 (m1.toNat : Int), .int .u8 (m2.toNat : Int), .int .u8 (m3.toNat : Int), .int .u8 (m4.toNat : Int), .int .u8 (m5.toNat : Int), .int .i64 t, .slice S n c] 35 (0, 0)) := by
    have := heap_alloc_new (w.alloc (.cells #[.int .u8 (a0.toNat : Int), .int .u8 (a1.toNat : Int), .int .u8 (a2.toNat : Int), .int .u8 (a3.toNat : Int), .int .u8 (a4.toNat : Int), .int .u8 (a5.toNat : Int), .int .u8 (m0.toNat : Int), .int .u8 (m1.toNat : Int), .int .u8 (m2.toNat : Int), .int .u8 (m3.toNat : Int), .int .u8 (m4.toNat : Int), .int .u8 (m5.toNat : Int), .int .i64 t, .slice S n c] 27)) (.cells #[.int .u8 (a0.toNat : Int), .int .u8 (a1.toNat : Int), .int .u8 (a2.toNat : Int), .int .u8 (a3.toNat : Int), .int .u8 (a4.toNat : Int), .int .u8 (a5.toNat : Int), .int .u8 (m0.toNat : Int), .int .u8 (m1.toNat : Int), .int .u8 (m2.toNat : Int), .int .u8 (m3.toNat : Int), .int .u8 (m4.toNat : Int), .int .u8 (m5.toNat : Int), .int .i64 t, .slice S n c] 35); simpa using this
  have bel := ((Below.refl w.heap.size w).alloc (Nat.le_refl _) (.cells #[.int .u8 (a0.toNat : Int), .int .u8 (a1.toNat : Int), .int .u8 (a2.toNat : Int), .int .u8 (a3.toNat : Int), .int .u8 (a4.toNat : Int), .int .u8 (a5.toNat : Int), .int .u8 (m0.toNat : Int), .int .u8 (m1.toNat : Int), .int .u8 (m2.toNat : Int), .int .u8 (m3.toNat : Int), .int .u8 (m4.toNat : Int), .int .u8 (m5.toNat : Int), .int .i64 t, .slice S n c] 27)).alloc (by simp) (.cells #[.int .u8 (a0.toNat : Int), .int .u8 (a1.toNat : Int), .int .u8 (a2.toNat : Int), .int .u8 (a3.toNat : Int), .int .u8 (a4.toNat : Int), .int .u8 (a5.toNat : Int), .int .u8 (m0.toNat : Int), .int .u8 (m1.toNat : Int), .int .u8 (m2.toNat : Int), .int .u8 (m3.toNat : Int), .int .u8 (m4.toNat : Int), .int .u8 (m5.toNat : Int), .int .i64 t, .slice S n c] 35)
  obtain ⟨⟨k0, k1, k2, k3, k4, k5, k6, k7, k8, k9, k10, k11, k12, k13⟩, _⟩ := cells14 hp1
  obtain ⟨⟨q0, q1, q2, q3, q4, q5, q6, q7, q8, q9, q10, q11, q12, q13⟩, _⟩ := cells14 hq
  clear hp hp1 hq
  go_enter Try.func15, Try.ntmps15
  go_wp2
  exact bodyPost_ret (v := .agg #[.int .u8 (a0.toNat : Int), .int .u8 (a1.toNat : Int), .int .u8 (a2.toNat : Int), .int .u8 (a3.toNat : Int), .int .u8 (a4.toNat : Int), .int .u8 (a5.toNat : Int), .int .u8 (m0.toNat : Int), .int .u8 (m1.toNat : Int), .int .u8 (m2.toNat : Int), .int .u8 (m3.toNat : Int), .int .u8 (m4.toNat : Int), .int .u8 (m5.toNat : Int), .int .i64 t, .slice S n c]) (by simp [results, Try.results15, go_sem, q0, q1, q2, q3, q4, q5, q6, q7, q8, q9, q10, q11, q12, q13]) rfl ⟨rfl, bel⟩

set_option maxRecDepth 100000 in
set_option maxHeartbeats 4000000 in
theorem same4_true (a0 a1 a2 a3 a4 a5 m0 m1 m2 m3 m4 m5 : UInt8) (t : Int) (S : Option Addr) (n c : Nat) (T : Option Addr) (d : Nat) (l : List UInt8) (w : World) (hs : Sl w S n c l) (ht : Sl w T n d l) :
    Calls Try.prog 16 #[.agg #[.int .u8 (a0.toNat : Int), .int .u8 (a1.toNat : Int), .int .u8 (a2.toNat : Int), .int .u8 (a3.toNat : Int), .int .u8 (a4.toNat : Int), .int .u8 (a5.toNat : Int), .int .u8 (m0.toNat : Int), .int .u8 (m1.toNat : Int), .int .u8 (m2.toNat : Int), .int .u8 (m3.toNat : Int), .int .u8 (m4.toNat : Int), .int .u8 (m5.toNat : Int), .int .i64 t, .slice S n c], .agg #[.int .u8 (a0.toNat : Int), .int .u8 (a1.toNat : Int), .int .u8 (a2.toNat : Int), .int .u8 (a3.toNat : Int), .int .u8 (a4.toNat : Int), .int .u8 (a5.toNat : Int), .int .u8 (m0.toNat : Int), .int .u8 (m1.toNat : Int), .int .u8 (m2.toNat : Int), .int .u8 (m3.toNat : Int), .int .u8 (m4.toNat : Int), .int .u8 (m5.toNat : Int), .int .i64 t, .slice T n d]] w fun e w' => e = .returned (.bool true) ∧ Below w.heap.size w w' := by
  have hp := heap_alloc_new w (.cells #[.int .u8 (a0.toNat : Int), .int .u8 (a1.toNat : Int), .int .u8 (a2.toNat : Int), .int .u8 (a3.toNat : Int), .int .u8 (a4.toNat : Int), .int .u8 (a5.toNat : Int), .int .u8 (m0.toNat : Int), .int .u8 (m1.toNat : Int), .int .u8 (m2.toNat : Int), .int .u8 (m3.toNat : Int), .int .u8 (m4.toNat : Int), .int .u8 (m5.toNat : Int), .int .i64 t, .slice S n c] 27)
  have zp : w.heap.size < (w.alloc (.cells #[.int .u8 (a0.toNat : Int), .int .u8 (a1.toNat : Int), .int .u8 (a2.toNat : Int), .int .u8 (a3.toNat : Int), .int .u8 (a4.toNat : Int), .int .u8 (a5.toNat : Int), .int .u8 (m0.toNat : Int), .int .u8 (m1.toNat : Int), .int .u8 (m2.toNat : Int), .int .u8 (m3.toNat : Int), .int .u8 (m4.toNat : Int), .int .u8 (m5.toNat : Int), .int .i64 t, .slice S n c] 27)).heap.size := by simp
  have hp1 := (Go.heap_alloc_old (w.alloc (.cells #[.int .u8 (a0.toNat : Int), .int .u8 (a1.toNat : Int), .int .u8 (a2.toNat : Int), .int .u8 (a3.toNat : Int), .int .u8 (a4.toNat : Int), .int .u8 (a5.toNat : Int), .int .u8 (m0.toNat : Int), .int .u8 (m1.toNat : Int), .int .u8 (m2.toNat : Int), .int .u8 (m3.toNat : Int), .int .u8 (m4.toNat : Int), .int .u8 (m5.toNat : Int), .int .i64 t, .slice S n c] 27)) (.cells #[.int .u8 (a0.toNat : Int), .int .u8 (a1.toNat : Int), .int .u8 (a2.toNat : Int), .int .u8 (a3.toNat : Int), .int .u8 (a4.toNat : Int), .int .u8 (a5.toNat : Int), .int .u8 (m0.toNat : Int), .int .u8 (m1.toNat : Int), .int .u8 (m2.toNat : Int), .int .u8 (m3.toNat : Int), .int .u8 (m4.toNat : Int), .int .u8 (m5.toNat : Int), .int .i64 t, .slice T n d] 35) (r := w.heap.size) zp).trans hp
  have hq : ((w.alloc (.cells #[.int .u8 (a0.toNat : Int), .int .u8 (a1.toNat : Int), .int .u8 (a2.toNat : Int), .int .u8 (a3.toNat : Int), .int .u8 (a4.toNat : Int), .int .u8 (a5.toNat : Int), .int .u8 (m0.toNat : Int), .int .u8 (m1.toNat : Int), .int .u8 (m2.toNat : Int), .int .u8 (m3.toNat : Int), .int .u8 (m4.toNat : Int), .int .u8 (m5.toNat : Int), .int .i64 t, .slice S n c] 27)).alloc (.cells #[.int .u8 (a0.toNat : Int), .int .u8 (a1.toNat : Int), .int .u8 (a2.toNat : Int), .int .u8 (a3.toNat : Int), .int .u8 (a4.toNat : Int), .int .u8 (a5.toNat : Int), .int .u8 (m0.toNat : Int), .int .u8 (m1.toNat : Int), .int .u8 (m2.toNat : Int), .int .u8 (m3.toNat : Int), .int .u8 (m4.toNat : Int), .int .u8 (m5.toNat : Int), .int .i64 t, .slice T n d] 35)).heap[w.heap.size + 1]? = some (.cells #[.int .u8 (a0.toNat : Int), .int .u8 (a1.toNat : Int), .int .u8 (a2.toNat : Int), .int .u8 (a3.toNat : Int), .int .u8 (a4.toNat : Int), .int .u8 (a5.toNat : Int), .int .u8 (m0.toNat : Int), .int .u8 (m1.toNat : Int), .int .u8 (m2.toNat : Int), .int .u8 (m3.toNat : Int), .int .u8 (m4.toNat : Int), .int .u8 (m5.toNat : Int), .int .i64 t, .slice T n d] 35 (0, 0)) := by
    have := heap_alloc_new (w.alloc (.cells #[.int .u8 (a0.toNat : Int), .int .u8 (a1.toNat : Int), .int .u8 (a2.toNat : Int), .int .u8 (a3.toNat : Int), .int .u8 (a4.toNat : Int), .int .u8 (a5.toNat : Int), .int .u8 (m0.toNat : Int), .int .u8 (m1.toNat : Int), .int .u8 (m2.toNat : Int), .int .u8 (m3.toNat : Int), .int .u8 (m4.toNat : Int), .int .u8 (m5.toNat : Int), .int .i64 t, .slice S n c] 27)) (.cells #[.int .u8 (a0.toNat : Int), .int .u8 (a1.toNat : Int), .int .u8 (a2.toNat : Int), .int .u8 (a3.toNat : Int), .int .u8 (a4.toNat : Int), .int .u8 (a5.toNat : Int), .int .u8 (m0.toNat : Int), .int .u8 (m1.toNat : Int), .int .u8 (m2.toNat : Int), .int .u8 (m3.toNat : Int), .int .u8 (m4.toNat : Int), .int .u8 (m5.toNat : Int), .int .i64 t, .slice T n d] 35); simpa using this
  have bel := ((Below.refl w.heap.size w).alloc (Nat.le_refl _) (.cells #[.int .u8 (a0.toNat : Int), .int .u8 (a1.toNat : Int), .int .u8 (a2.toNat : Int), .int .u8 (a3.toNat : Int), .int .u8 (a4.toNat : Int), .int .u8 (a5.toNat : Int), .int .u8 (m0.toNat : Int), .int .u8 (m1.toNat : Int), .int .u8 (m2.toNat : Int), .int .u8 (m3.toNat : Int), .int .u8 (m4.toNat : Int), .int .u8 (m5.toNat : Int), .int .i64 t, .slice S n c] 27)).alloc (by simp) (.cells #[.int .u8 (a0.toNat : Int), .int .u8 (a1.toNat : Int), .int .u8 (a2.toNat : Int), .int .u8 (a3.toNat : Int), .int .u8 (a4.toNat : Int), .int .u8 (a5.toNat : Int), .int .u8 (m0.toNat : Int), .int .u8 (m1.toNat : Int), .int .u8 (m2.toNat : Int), .int .u8 (m3.toNat : Int), .int .u8 (m4.toNat : Int), .int .u8 (m5.toNat : Int), .int .i64 t, .slice T n d] 35)
  have st1 := (hs.below bel).str (P := Try.prog) 25 5 9 Try.underlying25 Try.underlying5 Try.underlying9
  have st2 := (ht.below bel).str (P := Try.prog) 25 5 9 Try.underlying25 Try.underlying5 Try.underlying9
  have qa := fun W => eql6 [a0, a1, a2, a3, a4, a5] [a0, a1, a2, a3, a4, a5] rfl rfl W
  have qm := fun W => eql6 [m0, m1, m2, m3, m4, m5] [m0, m1, m2, m3, m4, m5] rfl rfl W
  have ga := fun op x y W => guard6 op x y ([a0, a1, a2, a3, a4, a5].map u8v).toArray ([a0, a1, a2, a3, a4, a5].map u8v).toArray W
  have gm := fun op x y W => guard6 op x y ([m0, m1, m2, m3, m4, m5].map u8v).toArray ([m0, m1, m2, m3, m4, m5].map u8v).toArray W
  simp only [List.map_cons, List.map_nil, u8v, beq_self_eq_true] at qa qm ga gm
  obtain ⟨⟨k0, k1, k2, k3, k4, k5, k6, k7, k8, k9, k10, k11, k12, k13⟩, _⟩ := cells14 hp1
  obtain ⟨⟨q0, q1, q2, q3, q4, q5, q6, q7, q8, q9, q10, q11, q12, q13⟩, _⟩ := cells14 hq
  clear hp hp1 hq hs ht
  go_enter Try.func16, Try.ntmps16
  go_wp2
  go_ret
  exact ⟨rfl, bel⟩
end Go.Proofs.Ytgaobeoddlmnjaa
