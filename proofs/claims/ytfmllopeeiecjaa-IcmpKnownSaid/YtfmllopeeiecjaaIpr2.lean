/- The reference's Get of packets whatever comes in, as one function of lists. -/
import Derived.Test.YtfmllopeeiecjaaIpr1
namespace Go.Proofs.Ytfmllopeeiecjaa
open Go.RowKit

/-- What bytes are as a packet: the six numbers, the eight bytes of the addresses, the options, the body, the error. -/
def ipGet (l : List UInt8) : (List Int × List UInt8) × (List UInt8 × List UInt8) × Int :=
  if ipErr l ≠ 0 then (([0, 0, 0, 0, 0, 0], [0, 0, 0, 0, 0, 0, 0, 0]), ([], []), ipErr l)
  else (([((l.getD 1 0).toNat : Int), (be ((l.drop 4).take 2) : Nat), ((be ((l.drop 6).take 2) : Nat) : Int) / 8192, ((be ((l.drop 6).take 2) : Nat) : Int) % 8192, ((l.getD 8 0).toNat : Int), ((l.getD 9 0).toNat : Int)], (l.drop 12).take 8),
    ((l.drop 20).take (hlen (l.getD 0 0) - 20), (l.drop (hlen (l.getD 0 0))).take (be ((l.drop 2).take 2) - hlen (l.getD 0 0))), 0)
/-- What Get answers. -/
def IpPost (l : List UInt8) (w : World) (e : Ending) (w' : World) : Prop :=
  ∃ (f0 f1 f2 f3 f4 f5 : Int) (a0 a1 a2 a3 a4 a5 a6 a7 : UInt8) (lo lb : List UInt8) (Ao Ab : Option Addr) (co cb : Nat) (er : Int), e = .returned (.tuple #[.agg #[.int .i64 f0, .int .i64 f1, .int .i64 f2, .int .i64 f3, .int .i64 f4, .int .i64 f5, .int .u8 (a0.toNat : Int), .int .u8 (a1.toNat : Int), .int .u8 (a2.toNat : Int), .int .u8 (a3.toNat : Int), .int .u8 (a4.toNat : Int), .int .u8 (a5.toNat : Int), .int .u8 (a6.toNat : Int), .int .u8 (a7.toNat : Int), .slice Ao lo.length co, .slice Ab lb.length cb], .int .i64 er]) ∧ Sl w' Ao lo.length co lo ∧ Sl w' Ab lb.length cb lb ∧ Below w.heap.size w w' ∧ (([f0, f1, f2, f3, f4, f5], [a0, a1, a2, a3, a4, a5, a6, a7]), (lo, lb), er) = ipGet l
theorem list20 (l : List UInt8) (h : 20 ≤ l.length) : ∃ h0 h1 h2 h3 h4 h5 h6 h7 h8 h9 h10 h11 h12 h13 h14 h15 h16 h17 h18 h19 r, l = h0 :: h1 :: h2 :: h3 :: h4 :: h5 :: h6 :: h7 :: h8 :: h9 :: h10 :: h11 :: h12 :: h13 :: h14 :: h15 :: h16 :: h17 :: h18 :: h19 :: r := by
  rcases l with _ | ⟨x0, l⟩
  · simp at h
  rcases l with _ | ⟨x1, l⟩
  · simp at h
  rcases l with _ | ⟨x2, l⟩
  · simp at h
  rcases l with _ | ⟨x3, l⟩
  · simp at h
  rcases l with _ | ⟨x4, l⟩
  · simp at h
  rcases l with _ | ⟨x5, l⟩
  · simp at h
  rcases l with _ | ⟨x6, l⟩
  · simp at h
  rcases l with _ | ⟨x7, l⟩
  · simp at h
  rcases l with _ | ⟨x8, l⟩
  · simp at h
  rcases l with _ | ⟨x9, l⟩
  · simp at h
  rcases l with _ | ⟨x10, l⟩
  · simp at h
  rcases l with _ | ⟨x11, l⟩
  · simp at h
  rcases l with _ | ⟨x12, l⟩
  · simp at h
  rcases l with _ | ⟨x13, l⟩
  · simp at h
  rcases l with _ | ⟨x14, l⟩
  · simp at h
  rcases l with _ | ⟨x15, l⟩
  · simp at h
  rcases l with _ | ⟨x16, l⟩
  · simp at h
  rcases l with _ | ⟨x17, l⟩
  · simp at h
  rcases l with _ | ⟨x18, l⟩
  · simp at h
  rcases l with _ | ⟨x19, l⟩
  · simp at h
  exact ⟨_, _, _, _, _, _, _, _, _, _, _, _, _, _, _, _, _, _, _, _, _, rfl⟩
theorem IpPost.err {l : List UInt8} {w w' : World} {er : Int} (h : ipErr l = er) (he : er ≠ 0) (b : Below w.heap.size w w') : IpPost l w (.returned (.tuple #[packz, .int .i64 er])) w' :=
  ⟨0, 0, 0, 0, 0, 0, 0, 0, 0, 0, 0, 0, 0, 0, [], [], none, none, 0, 0, er, rfl, Sl.nil _, Sl.nil _, b, by unfold ipGet; rw [if_pos (by rw [h]; exact he), h]⟩

theorem rget6_any (A : Option Addr) (n c : Nat) (l : List UInt8) (w : World) (hl : Sl w A n c l) (hm : n ≤ 100000) : Calls Try.prog 49 #[.slice A n c] w (IpPost l w) := by
  have hn := hl.1
  by_cases g1 : n < 20
  · refine (rget6_short A n c w g1).mono ?_
    rintro e w' ⟨rfl, bel⟩
    exact IpPost.err (by unfold ipErr; rw [if_pos (by omega)]) (by decide) bel
  obtain ⟨h0, h1, h2, h3, h4, h5, h6, h7, h8, h9, h10, h11, h12, h13, h14, h15, h16, h17, h18, h19, r, rfl⟩ := list20 l (by omega)
  have n1 : ¬ (h0 :: h1 :: h2 :: h3 :: h4 :: h5 :: h6 :: h7 :: h8 :: h9 :: h10 :: h11 :: h12 :: h13 :: h14 :: h15 :: h16 :: h17 :: h18 :: h19 :: r).length < 20 := by omega
  by_cases g2 : h0.toNat / 16 = 4
  · by_cases g3 : hlen h0 < 20
    · refine (rget6_bad5 A n c h0 _ w hl (by omega) g2 g3).mono ?_
      rintro e w' ⟨rfl, bel⟩
      exact IpPost.err (by unfold ipErr; rw [if_neg n1, if_pos (.inr g3)]) (by decide) bel
    have n2 : ¬ (((h0 :: h1 :: h2 :: h3 :: h4 :: h5 :: h6 :: h7 :: h8 :: h9 :: h10 :: h11 :: h12 :: h13 :: h14 :: h15 :: h16 :: h17 :: h18 :: h19 :: r).getD 0 0).toNat / 16 ≠ 4 ∨ hlen ((h0 :: h1 :: h2 :: h3 :: h4 :: h5 :: h6 :: h7 :: h8 :: h9 :: h10 :: h11 :: h12 :: h13 :: h14 :: h15 :: h16 :: h17 :: h18 :: h19 :: r).getD 0 0) < 20) := fun h => h.elim (fun h => h g2) g3
    by_cases g4 : n < hlen h0
    · refine (rget6_short2 A n c h0 _ w hl (by omega) g2 (by omega) g4).mono ?_
      rintro e w' ⟨rfl, bel⟩
      exact IpPost.err (by unfold ipErr; rw [if_neg n1, if_neg n2, if_pos (by rw [hn]; exact g4)]) (by decide) bel
    have n3 : ¬ (h0 :: h1 :: h2 :: h3 :: h4 :: h5 :: h6 :: h7 :: h8 :: h9 :: h10 :: h11 :: h12 :: h13 :: h14 :: h15 :: h16 :: h17 :: h18 :: h19 :: r).length < hlen ((h0 :: h1 :: h2 :: h3 :: h4 :: h5 :: h6 :: h7 :: h8 :: h9 :: h10 :: h11 :: h12 :: h13 :: h14 :: h15 :: h16 :: h17 :: h18 :: h19 :: r).getD 0 0) := by rw [hn]; exact g4
    by_cases g5 : ck ((h0 :: h1 :: h2 :: h3 :: h4 :: h5 :: h6 :: h7 :: h8 :: h9 :: h10 :: h11 :: h12 :: h13 :: h14 :: h15 :: h16 :: h17 :: h18 :: h19 :: r).take (hlen h0)) = 0
    · have n4 : ¬ ck ((h0 :: h1 :: h2 :: h3 :: h4 :: h5 :: h6 :: h7 :: h8 :: h9 :: h10 :: h11 :: h12 :: h13 :: h14 :: h15 :: h16 :: h17 :: h18 :: h19 :: r).take (hlen ((h0 :: h1 :: h2 :: h3 :: h4 :: h5 :: h6 :: h7 :: h8 :: h9 :: h10 :: h11 :: h12 :: h13 :: h14 :: h15 :: h16 :: h17 :: h18 :: h19 :: r).getD 0 0))) ≠ 0 := fun h => h g5
      by_cases g6 : be [h2, h3] < hlen h0
      · refine (rget6_bad6 A n c h0 _ w hl (by omega) g2 hm (by omega) (by omega) g5 g6).mono ?_
        rintro e w' ⟨rfl, bel⟩
        exact IpPost.err (by unfold ipErr; rw [if_neg n1, if_neg n2, if_neg n3, if_neg n4, if_pos (by exact g6)]) (by decide) bel
      have n5 : ¬ be (((h0 :: h1 :: h2 :: h3 :: h4 :: h5 :: h6 :: h7 :: h8 :: h9 :: h10 :: h11 :: h12 :: h13 :: h14 :: h15 :: h16 :: h17 :: h18 :: h19 :: r).drop 2).take 2) < hlen ((h0 :: h1 :: h2 :: h3 :: h4 :: h5 :: h6 :: h7 :: h8 :: h9 :: h10 :: h11 :: h12 :: h13 :: h14 :: h15 :: h16 :: h17 :: h18 :: h19 :: r).getD 0 0) := g6
      by_cases g7 : n < be [h2, h3]
      · refine (rget6_short3 A n c h0 _ w hl (by omega) g2 hm (by omega) (by omega) g5 (by exact Nat.le_of_not_lt g6) (by exact g7)).mono ?_
        rintro e w' ⟨rfl, bel⟩
        exact IpPost.err (by unfold ipErr; rw [if_neg n1, if_neg n2, if_neg n3, if_neg n4, if_neg n5, if_pos (by rw [hn]; exact g7)]) (by decide) bel
      have n6 : ¬ (h0 :: h1 :: h2 :: h3 :: h4 :: h5 :: h6 :: h7 :: h8 :: h9 :: h10 :: h11 :: h12 :: h13 :: h14 :: h15 :: h16 :: h17 :: h18 :: h19 :: r).length < be (((h0 :: h1 :: h2 :: h3 :: h4 :: h5 :: h6 :: h7 :: h8 :: h9 :: h10 :: h11 :: h12 :: h13 :: h14 :: h15 :: h16 :: h17 :: h18 :: h19 :: r).drop 2).take 2) := by rw [hn]; exact g7
      have h0e : ipErr (h0 :: h1 :: h2 :: h3 :: h4 :: h5 :: h6 :: h7 :: h8 :: h9 :: h10 :: h11 :: h12 :: h13 :: h14 :: h15 :: h16 :: h17 :: h18 :: h19 :: r) = 0 := by unfold ipErr; rw [if_neg n1, if_neg n2, if_neg n3, if_neg n4, if_neg n5, if_neg n6]
      refine (rget6_ok A n c h0 h1 h2 h3 h4 h5 h6 h7 h8 h9 h10 h11 h12 h13 h14 h15 h16 h17 h18 h19 r w hl (by omega) g2 hm (by omega) (by omega) g5 (by omega) (by omega)).mono ?_
      rintro e w' ⟨Ao, co, Ab, cb, rfl, ho, hb, bel⟩
      have eo := ho.1
      have eb := hb.1
      refine ⟨_, _, _, _, _, _, h12, h13, h14, h15, h16, h17, h18, h19, r.take (hlen h0 - 20), ((h0 :: h1 :: h2 :: h3 :: h4 :: h5 :: h6 :: h7 :: h8 :: h9 :: h10 :: h11 :: h12 :: h13 :: h14 :: h15 :: h16 :: h17 :: h18 :: h19 :: r).drop (hlen h0)).take (be [h2, h3] - hlen h0), Ao, Ab, co, cb, 0, by rw [eo, eb], by rw [eo]; exact ho, by rw [eb]; exact hb, bel, ?_⟩
      unfold ipGet
      rw [if_neg (by rw [h0e]; simp)]
      rfl
    · refine (rget6_sum A n c h0 _ w hl (by omega) g2 hm (by omega) (by omega) g5).mono ?_
      rintro e w' ⟨rfl, bel⟩
      exact IpPost.err (by unfold ipErr; rw [if_neg n1, if_neg n2, if_neg n3, if_pos (by exact g5)]) (by decide) bel
  · refine (rget6_bad4 A n c h0 _ w hl (by omega) g2).mono ?_
    rintro e w' ⟨rfl, bel⟩
    exact IpPost.err (by unfold ipErr; rw [if_neg n1, if_pos (.inl g2)]) (by decide) bel
end Go.Proofs.Ytfmllopeeiecjaa
