/- Get and Put whatever comes in, arp's and the reference's, as one function of lists. -/
import Derived.Test.YtekjjknpifpkiaaArp5
namespace Go.Proofs.Ytekjjknpifpkiaa
open Go.RowKit

/-- What bytes are as a packet: Op, the twenty bytes of the addresses, the error. -/
def arpGet (l : List UInt8) : (Int × List UInt8) × Int :=
  if l.length < 28 then ((0, [0, 0, 0, 0, 0, 0, 0, 0, 0, 0, 0, 0, 0, 0, 0, 0, 0, 0, 0, 0]), 3)
  else if l.take 7 = [0, 1, 8, 0, 6, 4, 0] ∧ (l.getD 7 0 = 1 ∨ l.getD 7 0 = 2) then (((l.getD 7 0).toNat, (l.drop 8).take 20), 0)
  else ((0, [0, 0, 0, 0, 0, 0, 0, 0, 0, 0, 0, 0, 0, 0, 0, 0, 0, 0, 0, 0]), 4)
def ArpPost (l : List UInt8) (w : World) (e : Ending) (w' : World) : Prop :=
  ∃ (op : Int) (a0 a1 a2 a3 a4 a5 p0 p1 p2 p3 m0 m1 m2 m3 m4 m5 d0 d1 d2 d3 : UInt8) (er : Int), e = .returned (.tuple #[.agg #[.int .i64 op, .int .u8 (a0.toNat : Int), .int .u8 (a1.toNat : Int), .int .u8 (a2.toNat : Int), .int .u8 (a3.toNat : Int), .int .u8 (a4.toNat : Int), .int .u8 (a5.toNat : Int), .int .u8 (p0.toNat : Int), .int .u8 (p1.toNat : Int), .int .u8 (p2.toNat : Int), .int .u8 (p3.toNat : Int), .int .u8 (m0.toNat : Int), .int .u8 (m1.toNat : Int), .int .u8 (m2.toNat : Int), .int .u8 (m3.toNat : Int), .int .u8 (m4.toNat : Int), .int .u8 (m5.toNat : Int), .int .u8 (d0.toNat : Int), .int .u8 (d1.toNat : Int), .int .u8 (d2.toNat : Int), .int .u8 (d3.toNat : Int)], .int .i64 er]) ∧ Below w.heap.size w w' ∧ ((op, [a0, a1, a2, a3, a4, a5, p0, p1, p2, p3, m0, m1, m2, m3, m4, m5, d0, d1, d2, d3]), er) = arpGet l
theorem list28 (l : List UInt8) (h : 28 ≤ l.length) : ∃ h0 h1 h2 h3 h4 h5 h6 h7 a0 a1 a2 a3 a4 a5 p0 p1 p2 p3 m0 m1 m2 m3 m4 m5 d0 d1 d2 d3 r, l = h0 :: h1 :: h2 :: h3 :: h4 :: h5 :: h6 :: h7 :: a0 :: a1 :: a2 :: a3 :: a4 :: a5 :: p0 :: p1 :: p2 :: p3 :: m0 :: m1 :: m2 :: m3 :: m4 :: m5 :: d0 :: d1 :: d2 :: d3 :: r := by
  rcases l with _ | ⟨x0, l⟩
  · simp at h
  rcases l with _ | ⟨x1, l⟩
  · simp at h
  rcases l with _ | ⟨x2, l⟩
  · simp at h
  rcases l with _ | ⟨x3, l⟩
  · simp at h
  rcases l with _ | ⟨x4, l⟩
  · simp at h
  rcases l with _ | ⟨x5, l⟩
  · simp at h
  rcases l with _ | ⟨x6, l⟩
  · simp at h
  rcases l with _ | ⟨x7, l⟩
  · simp at h
  rcases l with _ | ⟨x8, l⟩
  · simp at h
  rcases l with _ | ⟨x9, l⟩
  · simp at h
  rcases l with _ | ⟨x10, l⟩
  · simp at h
  rcases l with _ | ⟨x11, l⟩
  · simp at h
  rcases l with _ | ⟨x12, l⟩
  · simp at h
  rcases l with _ | ⟨x13, l⟩
  · simp at h
  rcases l with _ | ⟨x14, l⟩
  · simp at h
  rcases l with _ | ⟨x15, l⟩
  · simp at h
  rcases l with _ | ⟨x16, l⟩
  · simp at h
  rcases l with _ | ⟨x17, l⟩
  · simp at h
  rcases l with _ | ⟨x18, l⟩
  · simp at h
  rcases l with _ | ⟨x19, l⟩
  · simp at h
  rcases l with _ | ⟨x20, l⟩
  · simp at h
  rcases l with _ | ⟨x21, l⟩
  · simp at h
  rcases l with _ | ⟨x22, l⟩
  · simp at h
  rcases l with _ | ⟨x23, l⟩
  · simp at h
  rcases l with _ | ⟨x24, l⟩
  · simp at h
  rcases l with _ | ⟨x25, l⟩
  · simp at h
  rcases l with _ | ⟨x26, l⟩
  · simp at h
  rcases l with _ | ⟨x27, l⟩
  · simp at h
  exact ⟨_, _, _, _, _, _, _, _, _, _, _, _, _, _, _, _, _, _, _, _, _, _, _, _, _, _, _, _, _, rfl⟩
theorem be2_nat (x y : UInt8) : be [x, y] = x.toNat * 256 + y.toNat := by simp [be]
theorem be2_eq (x y : UInt8) (k : Nat) (h : be [x, y] = k) : x.toNat = k / 256 ∧ y.toNat = k % 256 := by
  rw [be2_nat] at h
  have := y.toNat_lt
  omega
theorem u8_eq (x : UInt8) (k : UInt8) (h : x.toNat = k.toNat) : x = k := UInt8.toNat_inj.1 h
theorem zero_of (h0 h1 h2 h3 h4 h5 h6 h7 a0 a1 a2 a3 a4 a5 p0 p1 p2 p3 m0 m1 m2 m3 m4 m5 d0 d1 d2 d3 : UInt8) (r : List UInt8) (h : ¬ ([h0, h1, h2, h3, h4, h5, h6] = [0, 1, 8, 0, 6, 4, 0] ∧ (h7 = 1 ∨ h7 = 2))) :
    ((0, [0, 0, 0, 0, 0, 0, 0, 0, 0, 0, 0, 0, 0, 0, 0, 0, 0, 0, 0, 0]), 4) = arpGet (h0 :: h1 :: h2 :: h3 :: h4 :: h5 :: h6 :: h7 :: a0 :: a1 :: a2 :: a3 :: a4 :: a5 :: p0 :: p1 :: p2 :: p3 :: m0 :: m1 :: m2 :: m3 :: m4 :: m5 :: d0 :: d1 :: d2 :: d3 :: r) := by
  unfold arpGet
  rw [if_neg (by simp), if_neg (by exact h)]

theorem aget5_any (A : Option Addr) (n c : Nat) (l : List UInt8) (w : World) (hl : Sl w A n c l) : Calls Try.prog 8 #[.slice A n c] w (ArpPost l w) := by
  have hn := hl.1
  by_cases h1 : n < 28
  · refine (aget_short A n c w h1).mono ?_
    rintro e w' ⟨rfl, bel⟩
    exact ⟨0, 0, 0, 0, 0, 0, 0, 0, 0, 0, 0, 0, 0, 0, 0, 0, 0, 0, 0, 0, 0, 3, rfl, bel, by unfold arpGet; rw [if_pos (by omega)]⟩
  obtain ⟨h0, h1, h2, h3, h4, h5, h6, h7, a0, a1, a2, a3, a4, a5, p0, p1, p2, p3, m0, m1, m2, m3, m4, m5, d0, d1, d2, d3, r, rfl⟩ := list28 l (by omega)
  by_cases e1 : be [h0, h1] = 1
  · obtain ⟨x0, x1⟩ := be2_eq _ _ _ e1
    obtain rfl := u8_eq h0 0 x0
    obtain rfl := u8_eq h1 1 x1
    by_cases e2 : be [h2, h3] = 2048
    · obtain ⟨x2, x3⟩ := be2_eq _ _ _ e2
      obtain rfl := u8_eq h2 8 x2
      obtain rfl := u8_eq h3 0 x3
      by_cases e3 : be [h4] = 6
      · obtain rfl := u8_eq h4 6 ((be_one h4).symm.trans e3)
        by_cases e4 : be [h5] = 4
        · obtain rfl := u8_eq h5 4 ((be_one h5).symm.trans e4)
          cases e5 : isOp (be [h6, h7] : Nat)
          · refine (aget_bad5 A n c _ h6 h7 a0 a1 a2 a3 a4 a5 p0 p1 p2 p3 m0 m1 m2 m3 m4 m5 d0 d1 d2 d3 w hl (by omega) rfl e5).mono ?_
            rintro e w' ⟨rfl, bel⟩
            refine ⟨0, 0, 0, 0, 0, 0, 0, 0, 0, 0, 0, 0, 0, 0, 0, 0, 0, 0, 0, 0, 0, 4, rfl, bel, zero_of _ _ _ _ _ _ _ _ _ _ _ _ _ _ _ _ _ _ _ _ _ _ _ _ _ _ _ _ r ?_⟩
            rintro ⟨a, b⟩
            simp only [List.cons.injEq, and_true, true_and] at a
            subst a
            rcases b with rfl | rfl
            · exact absurd e5 (by decide)
            · exact absurd e5 (by decide)
          · refine (aget_ok A n c _ h6 h7 a0 a1 a2 a3 a4 a5 p0 p1 p2 p3 m0 m1 m2 m3 m4 m5 d0 d1 d2 d3 w hl (by omega) rfl e5).mono ?_
            rintro e w' ⟨rfl, bel⟩
            have e6 : be [h6, h7] = 1 ∨ be [h6, h7] = 2 := by
              simp [isOp] at e5; omega
            have e7 : h6 = 0 ∧ (h7 = 1 ∨ h7 = 2) := by
              rcases e6 with e6 | e6
              · obtain ⟨x6, x7⟩ := be2_eq _ _ _ e6
                exact ⟨u8_eq h6 0 x6, .inl (u8_eq h7 1 x7)⟩
              · obtain ⟨x6, x7⟩ := be2_eq _ _ _ e6
                exact ⟨u8_eq h6 0 x6, .inr (u8_eq h7 2 x7)⟩
            obtain ⟨rfl, e8⟩ := e7
            refine ⟨_, a0, a1, a2, a3, a4, a5, p0, p1, p2, p3, m0, m1, m2, m3, m4, m5, d0, d1, d2, d3, 0, rfl, bel, ?_⟩
            unfold arpGet
            rw [if_neg (by simp), if_pos ⟨by rfl, by exact e8⟩, be2_nat]
            simp
        · refine (aget_bad4 A n c _ h5 (h6 :: h7 :: [a0, a1, a2, a3, a4, a5, p0, p1, p2, p3, m0, m1, m2, m3, m4, m5, d0, d1, d2, d3]) w hl (by omega) rfl e4).mono ?_
          rintro e w' ⟨rfl, bel⟩
          refine ⟨0, 0, 0, 0, 0, 0, 0, 0, 0, 0, 0, 0, 0, 0, 0, 0, 0, 0, 0, 0, 0, 4, rfl, bel, zero_of _ _ _ _ _ _ _ _ _ _ _ _ _ _ _ _ _ _ _ _ _ _ _ _ _ _ _ _ r ?_⟩
          rintro ⟨a, _⟩
          simp only [List.cons.injEq, and_true, true_and] at a
          rw [a.1] at e4
          exact e4 (by decide)
      · refine (aget_bad3 A n c _ h4 (h5 :: h6 :: h7 :: [a0, a1, a2, a3, a4, a5, p0, p1, p2, p3, m0, m1, m2, m3, m4, m5, d0, d1, d2, d3]) w hl (by omega) rfl e3).mono ?_
        rintro e w' ⟨rfl, bel⟩
        refine ⟨0, 0, 0, 0, 0, 0, 0, 0, 0, 0, 0, 0, 0, 0, 0, 0, 0, 0, 0, 0, 0, 4, rfl, bel, zero_of _ _ _ _ _ _ _ _ _ _ _ _ _ _ _ _ _ _ _ _ _ _ _ _ _ _ _ _ r ?_⟩
        rintro ⟨a, _⟩
        simp only [List.cons.injEq, and_true, true_and] at a
        rw [a.1] at e3
        exact e3 (by decide)
    · refine (aget_bad2 A n c _ h2 h3 (h4 :: h5 :: h6 :: h7 :: [a0, a1, a2, a3, a4, a5, p0, p1, p2, p3, m0, m1, m2, m3, m4, m5, d0, d1, d2, d3]) w hl (by omega) rfl e2).mono ?_
      rintro e w' ⟨rfl, bel⟩
      refine ⟨0, 0, 0, 0, 0, 0, 0, 0, 0, 0, 0, 0, 0, 0, 0, 0, 0, 0, 0, 0, 0, 4, rfl, bel, zero_of _ _ _ _ _ _ _ _ _ _ _ _ _ _ _ _ _ _ _ _ _ _ _ _ _ _ _ _ r ?_⟩
      rintro ⟨a, _⟩
      simp only [List.cons.injEq, and_true, true_and] at a
      rw [a.1, a.2.1] at e2
      exact e2 (by decide)
  · refine (aget_bad1 A n c _ h0 h1 (h2 :: h3 :: h4 :: h5 :: h6 :: h7 :: [a0, a1, a2, a3, a4, a5, p0, p1, p2, p3, m0, m1, m2, m3, m4, m5, d0, d1, d2, d3]) w hl (by omega) rfl e1).mono ?_
    rintro e w' ⟨rfl, bel⟩
    refine ⟨0, 0, 0, 0, 0, 0, 0, 0, 0, 0, 0, 0, 0, 0, 0, 0, 0, 0, 0, 0, 0, 4, rfl, bel, zero_of _ _ _ _ _ _ _ _ _ _ _ _ _ _ _ _ _ _ _ _ _ _ _ _ _ _ _ _ r ?_⟩
    rintro ⟨a, _⟩
    simp only [List.cons.injEq, and_true] at a
    rw [a.1, a.2.1] at e1
    exact e1 (by decide)

theorem rget5_any (A : Option Addr) (n c : Nat) (l : List UInt8) (w : World) (hl : Sl w A n c l) (hm : n ≤ 100000) : Calls Try.prog 13 #[.slice A n c] w (ArpPost l w) := by
  have hn := hl.1
  by_cases h1 : n < 28
  · refine (rget5_short A n c w h1).mono ?_
    rintro e w' ⟨rfl, bel⟩
    exact ⟨0, 0, 0, 0, 0, 0, 0, 0, 0, 0, 0, 0, 0, 0, 0, 0, 0, 0, 0, 0, 0, 3, rfl, bel, by unfold arpGet; rw [if_pos (by omega)]⟩
  obtain ⟨h0, h1, h2, h3, h4, h5, h6, h7, a0, a1, a2, a3, a4, a5, p0, p1, p2, p3, m0, m1, m2, m3, m4, m5, d0, d1, d2, d3, r, rfl⟩ := list28 l (by omega)
  by_cases e1 : [h0, h1, h2, h3, h4, h5, h6] = [0, 1, 8, 0, 6, 4, 0]
  · have e1' := e1
    simp only [List.cons.injEq, and_true] at e1
    obtain ⟨rfl, rfl, rfl, rfl, rfl, rfl, rfl⟩ := e1
    by_cases e2 : h7 = 1
    · subst e2
      refine (rget5_ok1 A n c a0 a1 a2 a3 a4 a5 p0 p1 p2 p3 m0 m1 m2 m3 m4 m5 d0 d1 d2 d3 r w hl (by omega) hm).mono ?_
      rintro e w' ⟨rfl, bel⟩
      exact ⟨1, a0, a1, a2, a3, a4, a5, p0, p1, p2, p3, m0, m1, m2, m3, m4, m5, d0, d1, d2, d3, 0, rfl, bel, by unfold arpGet; rw [if_neg (by simp), if_pos ⟨by rfl, .inl (by rfl)⟩]; rfl⟩
    by_cases e3 : h7 = 2
    · subst e3
      refine (rget5_ok2 A n c a0 a1 a2 a3 a4 a5 p0 p1 p2 p3 m0 m1 m2 m3 m4 m5 d0 d1 d2 d3 r w hl (by omega) hm).mono ?_
      rintro e w' ⟨rfl, bel⟩
      exact ⟨2, a0, a1, a2, a3, a4, a5, p0, p1, p2, p3, m0, m1, m2, m3, m4, m5, d0, d1, d2, d3, 0, rfl, bel, by unfold arpGet; rw [if_neg (by simp), if_pos ⟨by rfl, .inr (by rfl)⟩]; rfl⟩
    refine (rget5_bad2 A n c h7 (a0 :: a1 :: a2 :: a3 :: a4 :: a5 :: p0 :: p1 :: p2 :: p3 :: m0 :: m1 :: m2 :: m3 :: m4 :: m5 :: d0 :: d1 :: d2 :: d3 :: r) w hl (by omega) ⟨e2, e3⟩).mono ?_
    rintro e w' ⟨rfl, bel⟩
    exact ⟨0, 0, 0, 0, 0, 0, 0, 0, 0, 0, 0, 0, 0, 0, 0, 0, 0, 0, 0, 0, 0, 4, rfl, bel, zero_of _ _ _ _ _ _ _ _ _ _ _ _ _ _ _ _ _ _ _ _ _ _ _ _ _ _ _ _ r (fun h => h.2.elim e2 e3)⟩
  · refine (rget5_bad1 A n c _ w hl (by omega) e1).mono ?_
    rintro e w' ⟨rfl, bel⟩
    exact ⟨0, 0, 0, 0, 0, 0, 0, 0, 0, 0, 0, 0, 0, 0, 0, 0, 0, 0, 0, 0, 0, 4, rfl, bel, zero_of _ _ _ _ _ _ _ _ _ _ _ _ _ _ _ _ _ _ _ _ _ _ _ _ _ _ _ _ r (fun h => e1 h.1)⟩

theorem put_eq (op : Int) (l : List UInt8) (h : isOp op = true) : putArp op l = rputArp op l := by
  have : op = 1 ∨ op = 2 := by simpa [isOp] using h
  rcases this with rfl | rfl
  · have e : two 1 = [0, byteOf 1] := by decide +kernel
    simp [putArp, rputArp, e]
  · have e : two 2 = [0, byteOf 2] := by decide +kernel
    simp [putArp, rputArp, e]

theorem k5_put (w : World) : Calls Try.prog 9 #[.agg #[.int .i64 1, .int .u8 2, .int .u8 0, .int .u8 0, .int .u8 0, .int .u8 0, .int .u8 0, .int .u8 10, .int .u8 0, .int .u8 0, .int .u8 1, .int .u8 0, .int .u8 0, .int .u8 0, .int .u8 0, .int .u8 0, .int .u8 0, .int .u8 10, .int .u8 0, .int .u8 0, .int .u8 2]] w fun e w' => ∃ A c, e = .returned (.tuple #[.slice A 28 c, .int .i64 0]) ∧ Sl w' A 28 c [0, 1, 8, 0, 6, 4, 0, 1, 2, 0, 0, 0, 0, 0, 10, 0, 0, 1, 0, 0, 0, 0, 0, 0, 10, 0, 0, 2] ∧ Below w.heap.size w w' := by
  have h := aput_ok 1 2 0 0 0 0 0 10 0 0 1 0 0 0 0 0 0 10 0 0 2 w (by decide)
  rw [put_eq 1 _ (by decide)] at h
  exact h
theorem k5_get (A : Option Addr) (c : Nat) (w : World) (h : Sl w A 28 c [0, 1, 8, 0, 6, 4, 0, 1, 2, 0, 0, 0, 0, 0, 10, 0, 0, 1, 0, 0, 0, 0, 0, 0, 10, 0, 0, 2]) : Calls Try.prog 8 #[.slice A 28 c] w fun e w' => e = .returned (.tuple #[.agg #[.int .i64 1, .int .u8 2, .int .u8 0, .int .u8 0, .int .u8 0, .int .u8 0, .int .u8 0, .int .u8 10, .int .u8 0, .int .u8 0, .int .u8 1, .int .u8 0, .int .u8 0, .int .u8 0, .int .u8 0, .int .u8 0, .int .u8 0, .int .u8 10, .int .u8 0, .int .u8 0, .int .u8 2], .int .i64 0]) ∧ Below w.heap.size w w' := by
  have h := aget_ok A 28 c _ 0 1 2 0 0 0 0 0 10 0 0 1 0 0 0 0 0 0 10 0 0 2 w h (by omega) rfl (by decide)
  rw [show be [0, 1] = 1 by decide] at h
  exact h
theorem k5_eq (w : World) : (binOp .eql 28 (.agg #[.int .i64 1, .int .u8 2, .int .u8 0, .int .u8 0, .int .u8 0, .int .u8 0, .int .u8 0, .int .u8 10, .int .u8 0, .int .u8 0, .int .u8 1, .int .u8 0, .int .u8 0, .int .u8 0, .int .u8 0, .int .u8 0, .int .u8 0, .int .u8 10, .int .u8 0, .int .u8 0, .int .u8 2]) (.agg #[.int .i64 1, .int .u8 2, .int .u8 0, .int .u8 0, .int .u8 0, .int .u8 0, .int .u8 0, .int .u8 10, .int .u8 0, .int .u8 0, .int .u8 1, .int .u8 0, .int .u8 0, .int .u8 0, .int .u8 0, .int .u8 0, .int .u8 0, .int .u8 10, .int .u8 0, .int .u8 0, .int .u8 2])).run Try.prog w = .ok (.bool true) w := eqlPK 1 2 0 0 0 0 0 10 0 0 1 0 0 0 0 0 0 10 0 0 2 w
set_option maxRecDepth 100000 in
set_option maxHeartbeats 8000000 in
theorem awake5 (w : World) : Calls Try.prog 7 #[] w fun e w' => e = .returned (.bool true) ∧ Below w.heap.size w w' := by
  have qe := k5_eq
  have ge := guardPK
  have bel := Below.refl w.heap.size w
  have hp : (w.alloc (.cells #[.int .i64 0, .int .u8 0, .int .u8 0, .int .u8 0, .int .u8 0, .int .u8 0, .int .u8 0, .int .u8 0, .int .u8 0, .int .u8 0, .int .u8 0, .int .u8 0, .int .u8 0, .int .u8 0, .int .u8 0, .int .u8 0, .int .u8 0, .int .u8 0, .int .u8 0, .int .u8 0, .int .u8 0] 28)).heap[w.heap.size]? = some (.cells #[.int .i64 0, .int .u8 0, .int .u8 0, .int .u8 0, .int .u8 0, .int .u8 0, .int .u8 0, .int .u8 0, .int .u8 0, .int .u8 0, .int .u8 0, .int .u8 0, .int .u8 0, .int .u8 0, .int .u8 0, .int .u8 0, .int .u8 0, .int .u8 0, .int .u8 0, .int .u8 0, .int .u8 0] 28 (0, 0)) := by have := heap_alloc_new w (.cells #[.int .i64 0, .int .u8 0, .int .u8 0, .int .u8 0, .int .u8 0, .int .u8 0, .int .u8 0, .int .u8 0, .int .u8 0, .int .u8 0, .int .u8 0, .int .u8 0, .int .u8 0, .int .u8 0, .int .u8 0, .int .u8 0, .int .u8 0, .int .u8 0, .int .u8 0, .int .u8 0, .int .u8 0] 28); simpa using this
  have zp : w.heap.size < (w.alloc (.cells #[.int .i64 0, .int .u8 0, .int .u8 0, .int .u8 0, .int .u8 0, .int .u8 0, .int .u8 0, .int .u8 0, .int .u8 0, .int .u8 0, .int .u8 0, .int .u8 0, .int .u8 0, .int .u8 0, .int .u8 0, .int .u8 0, .int .u8 0, .int .u8 0, .int .u8 0, .int .u8 0, .int .u8 0] 28)).heap.size := by simp
  replace bel := bel.alloc bel.size (.cells #[.int .i64 0, .int .u8 0, .int .u8 0, .int .u8 0, .int .u8 0, .int .u8 0, .int .u8 0, .int .u8 0, .int .u8 0, .int .u8 0, .int .u8 0, .int .u8 0, .int .u8 0, .int .u8 0, .int .u8 0, .int .u8 0, .int .u8 0, .int .u8 0, .int .u8 0, .int .u8 0, .int .u8 0] 28)
  go_enter Try.func7, Try.ntmps7
  go_wp2_with (first | ((with_reducible show wpList _ _ _ (⟨none, Op.store _ _ _, _, _, _, _⟩ :: _) _ _); refine wpList_store_blk rfl 28 _ _ rfl (w.heap.size) rfl #[.int .i64 1, .int .u8 2, .int .u8 0, .int .u8 0, .int .u8 0, .int .u8 0, .int .u8 0, .int .u8 10, .int .u8 0, .int .u8 0, .int .u8 1, .int .u8 0, .int .u8 0, .int .u8 0, .int .u8 0, .int .u8 0, .int .u8 0, .int .u8 10, .int .u8 0, .int .u8 0, .int .u8 2] rfl _ 28 hp (by rfl) (by kernel_rfl) (by kernel_rfl) ?_; intro wp hrz hgz; replace bel := below_grown bel hgz (Nat.le_refl _) bel.size; replace zp := Nat.lt_of_lt_of_le zp hgz.size; clear hgz hp) | (refine wpList_load_part_if (by kernel_rfl) 28 _ rfl (w.heap.size) 0 21 rfl [.int .i64 1, .int .u8 2, .int .u8 0, .int .u8 0, .int .u8 0, .int .u8 0, .int .u8 0, .int .u8 10, .int .u8 0, .int .u8 0, .int .u8 1, .int .u8 0, .int .u8 0, .int .u8 0, .int .u8 0, .int .u8 0, .int .u8 0, .int .u8 10, .int .u8 0, .int .u8 0, .int .u8 2] 28 (0, 0) hrz [.int .i64 1, .int .u8 2, .int .u8 0, .int .u8 0, .int .u8 0, .int .u8 0, .int .u8 0, .int .u8 10, .int .u8 0, .int .u8 0, .int .u8 1, .int .u8 0, .int .u8 0, .int .u8 0, .int .u8 0, .int .u8 0, .int .u8 0, .int .u8 10, .int .u8 0, .int .u8 0, .int .u8 2] rfl _ Try.underlying28 rfl (by kernel_rfl) ?_))
  with_reducible refine (k5_put _).mono ?_
  rintro e w1 ⟨A1, c1, rfl, hs, b1⟩
  replace hrz := (b1.block _ zp).trans hrz
  replace zp := Nat.lt_of_lt_of_le zp b1.size
  replace bel := bel.trans (b1.mono bel.size)
  clear b1
  go_wp2_with fail
  with_reducible refine (k5_get _ _ _ hs).mono ?_
  rintro e w2 ⟨rfl, b2⟩
  replace hrz := (b2.block _ zp).trans hrz
  replace zp := Nat.lt_of_lt_of_le zp b2.size
  replace bel := bel.trans (b2.mono bel.size)
  clear b2 hs
  have hq := heap_alloc_new w2 (.cells #[.int .i64 0, .int .u8 0, .int .u8 0, .int .u8 0, .int .u8 0, .int .u8 0, .int .u8 0, .int .u8 0, .int .u8 0, .int .u8 0, .int .u8 0, .int .u8 0, .int .u8 0, .int .u8 0, .int .u8 0, .int .u8 0, .int .u8 0, .int .u8 0, .int .u8 0, .int .u8 0, .int .u8 0] 28)
  have bq := (Below.refl w2.heap.size w2).alloc (Nat.le_refl _) (.cells #[.int .i64 0, .int .u8 0, .int .u8 0, .int .u8 0, .int .u8 0, .int .u8 0, .int .u8 0, .int .u8 0, .int .u8 0, .int .u8 0, .int .u8 0, .int .u8 0, .int .u8 0, .int .u8 0, .int .u8 0, .int .u8 0, .int .u8 0, .int .u8 0, .int .u8 0, .int .u8 0, .int .u8 0] 28)
  replace hrz := (bq.block _ zp).trans hrz
  replace bel := bel.trans (bq.mono bel.size)
  have zq := zp
  replace zp := Nat.lt_of_lt_of_le zp bq.size
  clear bq
  go_wp2_with (first | ((with_reducible show wpList _ _ _ (⟨none, Op.store _ _ _, _, _, _, _⟩ :: _) _ _); refine wpList_store_blk rfl 28 _ _ rfl (w2.heap.size) rfl #[.int .i64 1, .int .u8 2, .int .u8 0, .int .u8 0, .int .u8 0, .int .u8 0, .int .u8 0, .int .u8 10, .int .u8 0, .int .u8 0, .int .u8 1, .int .u8 0, .int .u8 0, .int .u8 0, .int .u8 0, .int .u8 0, .int .u8 0, .int .u8 10, .int .u8 0, .int .u8 0, .int .u8 2] rfl _ 28 hq (by rfl) (by kernel_rfl) (by kernel_rfl) ?_; intro wq hqz hgz; replace bel := below_grown bel hgz (Nat.le_of_lt zq) bel.size; replace hrz := (hgz.block _ zp (by intro e; injection e with e; omega)).trans hrz; clear hgz hq) | (refine wpList_load_part_if (by kernel_rfl) 28 _ rfl (w.heap.size) 0 21 rfl [.int .i64 1, .int .u8 2, .int .u8 0, .int .u8 0, .int .u8 0, .int .u8 0, .int .u8 0, .int .u8 10, .int .u8 0, .int .u8 0, .int .u8 1, .int .u8 0, .int .u8 0, .int .u8 0, .int .u8 0, .int .u8 0, .int .u8 0, .int .u8 10, .int .u8 0, .int .u8 0, .int .u8 2] 28 (0, 0) hrz [.int .i64 1, .int .u8 2, .int .u8 0, .int .u8 0, .int .u8 0, .int .u8 0, .int .u8 0, .int .u8 10, .int .u8 0, .int .u8 0, .int .u8 1, .int .u8 0, .int .u8 0, .int .u8 0, .int .u8 0, .int .u8 0, .int .u8 0, .int .u8 10, .int .u8 0, .int .u8 0, .int .u8 2] rfl _ Try.underlying28 rfl (by kernel_rfl) ?_) | (refine wpList_load_part_if (by kernel_rfl) 28 _ rfl (w2.heap.size) 0 21 rfl [.int .i64 1, .int .u8 2, .int .u8 0, .int .u8 0, .int .u8 0, .int .u8 0, .int .u8 0, .int .u8 10, .int .u8 0, .int .u8 0, .int .u8 1, .int .u8 0, .int .u8 0, .int .u8 0, .int .u8 0, .int .u8 0, .int .u8 0, .int .u8 10, .int .u8 0, .int .u8 0, .int .u8 2] 28 (0, 0) hqz [.int .i64 1, .int .u8 2, .int .u8 0, .int .u8 0, .int .u8 0, .int .u8 0, .int .u8 0, .int .u8 10, .int .u8 0, .int .u8 0, .int .u8 1, .int .u8 0, .int .u8 0, .int .u8 0, .int .u8 0, .int .u8 0, .int .u8 0, .int .u8 10, .int .u8 0, .int .u8 0, .int .u8 2] rfl _ Try.underlying28 rfl (by kernel_rfl) ?_))
  go_ret
  exact ⟨rfl, bel⟩
end Go.Proofs.Ytekjjknpifpkiaa
