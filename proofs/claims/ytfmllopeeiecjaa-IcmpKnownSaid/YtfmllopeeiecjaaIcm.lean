/- Get of packets, told by names; the lengths of its parts; '==' of addresses. -/
import Derived.Test.YtfmllopeeiecjaaIcl
import Derived.Test.YtfmllopeeiecjaaIpr3
import Derived.Test.YtfmllopeeiecjaaIpb
namespace Go.Proofs.Ytfmllopeeiecjaa
open Go.RowKit

theorem ipget_len {l : List UInt8} {fs : List Int} {ad lo lb : List UInt8} (h : ipGet l = ((fs, ad), (lo, lb), 0)) : 20 + lo.length + lb.length ≤ l.length := by
  have he : ipErr l = 0 := by
    by_cases he : ipErr l = 0
    · exact he
    · exfalso
      unfold ipGet at h
      rw [if_pos he] at h
      simp only [Prod.mk.injEq] at h
      exact he h.2.2
  have h20 : 20 ≤ l.length := Nat.le_of_not_lt fun g => by unfold ipErr at he; rw [if_pos g] at he; cases he
  obtain ⟨h0, h1, h2, h3, h4, h5, h6, h7, h8, h9, h10, h11, h12, h13, h14, h15, h16, h17, h18, h19, r, rfl⟩ := list20 l h20
  rw [ipGet_at he] at h
  obtain ⟨g1, g2, g3, g4, g5, g6⟩ := ok_parts he
  simp only [Prod.mk.injEq] at h
  obtain ⟨_, ⟨rfl, rfl⟩, _⟩ := h
  simp only [List.length_take, List.length_drop, List.length_cons] at *
  omega
/-- Get of packets tells six numbers and eight bytes. -/
theorem ipget_form (l : List UInt8) : ∃ (f0 f1 f2 f3 f4 f5 : Int) (a0 a1 a2 a3 a4 a5 a6 a7 : UInt8) (lo lb : List UInt8) (er : Int), ipGet l = (([f0, f1, f2, f3, f4, f5], [a0, a1, a2, a3, a4, a5, a6, a7]), (lo, lb), er) := by
  by_cases he : ipErr l = 0
  · have h20 : 20 ≤ l.length := Nat.le_of_not_lt fun g => by unfold ipErr at he; rw [if_pos g] at he; cases he
    obtain ⟨h0, h1, h2, h3, h4, h5, h6, h7, h8, h9, h10, h11, h12, h13, h14, h15, h16, h17, h18, h19, r, rfl⟩ := list20 l h20
    rw [ipGet_at he]
    exact ⟨_, _, _, _, _, _, _, _, _, _, _, _, _, _, _, _, _, rfl⟩
  · unfold ipGet
    rw [if_pos he]
    exact ⟨_, _, _, _, _, _, _, _, _, _, _, _, _, _, _, _, _, rfl⟩
theorem neq4z (a b c d : UInt8) (W : World) : (binOp .neq 24 (.agg #[.int .u8 (a.toNat : Int), .int .u8 (b.toNat : Int), .int .u8 (c.toNat : Int), .int .u8 (d.toNat : Int)]) (.agg #[.int .u8 0, .int .u8 0, .int .u8 0, .int .u8 0])).run Try.prog W = .ok (.bool (!([a, b, c, d] == [0, 0, 0, 0]))) W := by
  have h := run_equalIn_bytes (P := Try.prog) W 9998 24 5 4 (by kernel_rfl) (by kernel_rfl) (fun w => by kernel_rfl) [a, b, c, d] [0, 0, 0, 0] rfl rfl
  rw [run_neq_struct]
  have h2 : (Op.equalIn 10000 24 (.agg #[.int .u8 (a.toNat : Int), .int .u8 (b.toNat : Int), .int .u8 (c.toNat : Int), .int .u8 (d.toNat : Int)]) (.agg #[.int .u8 0, .int .u8 0, .int .u8 0, .int .u8 0])).run Try.prog W = .ok ([a, b, c, d] == [0, 0, 0, 0]) W := h
  rw [h2]
  rfl
theorem eql4z (a b c d : UInt8) (W : World) : (binOp .eql 24 (.agg #[.int .u8 (a.toNat : Int), .int .u8 (b.toNat : Int), .int .u8 (c.toNat : Int), .int .u8 (d.toNat : Int)]) (.agg #[.int .u8 0, .int .u8 0, .int .u8 0, .int .u8 0])).run Try.prog W = .ok (.bool ([a, b, c, d] == [0, 0, 0, 0])) W :=
  run_eql_bytes (P := Try.prog) W 24 5 4 (by kernel_rfl) (by kernel_rfl) (fun w => by kernel_rfl) [a, b, c, d] [0, 0, 0, 0] rfl rfl
theorem ipget_n (A : Option Addr) (n c : Nat) (l : List UInt8) (f0 f1 f2 f3 f4 f5 : Int) (a0 a1 a2 a3 a4 a5 a6 a7 : UInt8) (lo lb : List UInt8) (no nb : Nat) (er : Int) (w : World) (hl : Sl w A n c l) (hm : n ≤ 100000) (hg : ipGet l = (([f0, f1, f2, f3, f4, f5], [a0, a1, a2, a3, a4, a5, a6, a7]), (lo, lb), er)) (h1 : lo.length = no) (h2 : lb.length = nb) : Calls Try.prog 32 #[.slice A n c] w fun e w' => ∃ Ao co Ab cb, e = .returned (.tuple #[.agg #[.int .i64 f0, .int .i64 f1, .int .i64 f2, .int .i64 f3, .int .i64 f4, .int .i64 f5, .int .u8 (a0.toNat : Int), .int .u8 (a1.toNat : Int), .int .u8 (a2.toNat : Int), .int .u8 (a3.toNat : Int), .int .u8 (a4.toNat : Int), .int .u8 (a5.toNat : Int), .int .u8 (a6.toNat : Int), .int .u8 (a7.toNat : Int), .slice Ao no co, .slice Ab nb cb], .int .i64 er]) ∧ Sl w' Ao no co lo ∧ Sl w' Ab nb cb lb ∧ Below w.heap.size w w' := by
  subst h1
  subst h2
  refine (ipget_any A n c l w hl hm).mono ?_
  rintro e w' ⟨g0, g1, g2, g3, g4, g5, b0, b1, b2, b3, b4, b5, b6, b7, lo', lb', Ao, Ab, co, cb, er', rfl, ho, hb, bel, hq⟩
  rw [hg] at hq
  simp only [Prod.mk.injEq, List.cons.injEq, and_true] at hq
  obtain ⟨⟨⟨rfl, rfl, rfl, rfl, rfl, rfl⟩, rfl, rfl, rfl, rfl, rfl, rfl, rfl, rfl⟩, ⟨rfl, rfl⟩, rfl⟩ := hq
  exact ⟨Ao, co, Ab, cb, rfl, ho, hb, bel⟩
theorem rget6_n (A : Option Addr) (n c : Nat) (l : List UInt8) (f0 f1 f2 f3 f4 f5 : Int) (a0 a1 a2 a3 a4 a5 a6 a7 : UInt8) (lo lb : List UInt8) (no nb : Nat) (er : Int) (w : World) (hl : Sl w A n c l) (hm : n ≤ 100000) (hg : ipGet l = (([f0, f1, f2, f3, f4, f5], [a0, a1, a2, a3, a4, a5, a6, a7]), (lo, lb), er)) (h1 : lo.length = no) (h2 : lb.length = nb) : Calls Try.prog 49 #[.slice A n c] w fun e w' => ∃ Ao co Ab cb, e = .returned (.tuple #[.agg #[.int .i64 f0, .int .i64 f1, .int .i64 f2, .int .i64 f3, .int .i64 f4, .int .i64 f5, .int .u8 (a0.toNat : Int), .int .u8 (a1.toNat : Int), .int .u8 (a2.toNat : Int), .int .u8 (a3.toNat : Int), .int .u8 (a4.toNat : Int), .int .u8 (a5.toNat : Int), .int .u8 (a6.toNat : Int), .int .u8 (a7.toNat : Int), .slice Ao no co, .slice Ab nb cb], .int .i64 er]) ∧ Sl w' Ao no co lo ∧ Sl w' Ab nb cb lb ∧ Below w.heap.size w w' := by
  subst h1
  subst h2
  refine (rget6_any A n c l w hl hm).mono ?_
  rintro e w' ⟨g0, g1, g2, g3, g4, g5, b0, b1, b2, b3, b4, b5, b6, b7, lo', lb', Ao, Ab, co, cb, er', rfl, ho, hb, bel, hq⟩
  rw [hg] at hq
  simp only [Prod.mk.injEq, List.cons.injEq, and_true] at hq
  obtain ⟨⟨⟨rfl, rfl, rfl, rfl, rfl, rfl⟩, rfl, rfl, rfl, rfl, rfl, rfl, rfl, rfl⟩, ⟨rfl, rfl⟩, rfl⟩ := hq
  exact ⟨Ao, co, Ab, cb, rfl, ho, hb, bel⟩
end Go.Proofs.Ytfmllopeeiecjaa
