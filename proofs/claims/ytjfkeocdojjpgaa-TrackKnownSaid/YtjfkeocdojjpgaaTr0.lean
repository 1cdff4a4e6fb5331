/- Connections as lists: which segment leads where; which one leaves. No program. -/
import Derived.Test.YtjfkeocdojjpgaaAdm
namespace Go.Proofs.Ytjfkeocdojjpgaa
open Go.RowKit

theorem be_inj4 {a b c d a' b' c' d' : UInt8} (h : be [a, b, c, d] = be [a', b', c', d']) : a = a' ∧ b = b' ∧ c = c' ∧ d = d' := by
  have e : ∀ p q r s : UInt8, be [p, q, r, s] = ((p.toNat * 256 + q.toNat) * 256 + r.toNat) * 256 + s.toNat := fun p q r s => by simp [be]
  rw [e, e] at h
  have h0 := a.toNat_lt; have h1 := b.toNat_lt; have h2 := c.toNat_lt; have h3 := d.toNat_lt
  have g0 := a'.toNat_lt; have g1 := b'.toNat_lt; have g2 := c'.toNat_lt; have g3 := d'.toNat_lt
  refine ⟨UInt8.toNat_inj.1 ?_, UInt8.toNat_inj.1 ?_, UInt8.toNat_inj.1 ?_, UInt8.toNat_inj.1 ?_⟩ <;> omega
theorem Ad4.num_inj {x y : Ad4} (h : x.num = y.num) : x = y := by
  obtain ⟨a, b, c, d⟩ := x
  obtain ⟨a', b', c', d'⟩ := y
  obtain ⟨rfl, rfl, rfl, rfl⟩ := be_inj4 h
  rfl
def Ad4.zero : Ad4 := ⟨0, 0, 0, 0⟩
def Ad4.l (x : Ad4) : List UInt8 := [x.a, x.b, x.c, x.d]
def Ad4.eqB (x y : Ad4) : Bool := x.l == y.l
theorem Ad4.eqB_iff {x y : Ad4} : x.eqB y = true ↔ x = y := by
  obtain ⟨a, b, c, d⟩ := x
  obtain ⟨a', b', c', d'⟩ := y
  simp [Ad4.eqB, Ad4.l]
theorem Ad4.eqB_self (x : Ad4) : x.eqB x = true := Ad4.eqB_iff.2 rfl
theorem Ad4.eqB_no {x y : Ad4} (h : x ≠ y) : x.eqB y = false := by
  cases e : x.eqB y with
  | false => rfl
  | true => exact absurd (Ad4.eqB_iff.1 e) h
/-- A connection: the gateway's port, the peer, its port, the state, a direction. -/
structure Cn where
  o : Int
  ad : Ad4
  p : Int
  s : Int
  d : Bool
def cnE (e : Cn) : List Value := [.int .i64 e.o, .int .u8 (e.ad.a.toNat : Int), .int .u8 (e.ad.b.toNat : Int), .int .u8 (e.ad.c.toNat : Int), .int .u8 (e.ad.d.toNat : Int), .int .i64 e.p, .int .i64 e.s, .bool e.d]
theorem cnE_len (e : Cn) : (cnE e).length = 8 := rfl
theorem cnE_one (e : Cn) : ∀ u ∈ cnE e, u.oneCell' = true := by
  intro u hu
  simp only [cnE, List.mem_cons, List.not_mem_nil, or_false] at hu
  rcases hu with h | h | h | h | h | h | h | h <;> rw [h] <;> rfl
def Cn.okp (e : Cn) : Prop := 0 ≤ e.s ∧ e.s ≤ 6
/-- Is it the one of these ends? -/
def isB (o : Int) (ad : Ad4) (p : Int) (e : Cn) : Bool := (e.o == o) && (e.ad.eqB ad && (e.p == p))
def overB (e : Cn) : Bool := (e.s == 5) || (e.s == 6)
/-- A flag. -/
def fl (f m : Int) : Bool := !(bits .and .i64 f m == 0)
/-- Where a segment leads. -/
def fol (x : Cn) (b : Bool) (f : Int) : Cn :=
  if x.s = 0 ∨ x.s = 6 then (if (fl f 2 && !fl f 20) = true then { x with s := 1, d := b } else x)
  else if fl f 4 = true then { x with s := 6 }
  else if (fl f 1 && decide (x.s ≤ 3)) = true then { x with s := 4, d := b }
  else if ((x.s == 1) && (fl f 2 && (b != x.d))) = true then { x with s := 2 }
  else if ((x.s == 2) && (fl f 16 && !fl f 2)) = true then { x with s := 3 }
  else if ((x.s == 4) && (fl f 1 && (b != x.d))) = true then { x with s := 5 }
  else x
theorem fol_okp {x : Cn} (h : x.okp) (b : Bool) (f : Int) : (fol x b f).okp := by
  obtain ⟨h1, h2⟩ := h
  unfold fol
  unfold Cn.okp
  repeat' split
  all_goals ((try dsimp only); omega)
/-- The first one that is over, or the first one of all. -/
def least (l : List Cn) : Nat := if l.findIdx overB < l.length then l.findIdx overB else 0
theorem least_lt {l : List Cn} (h : 0 < l.length) : least l < l.length := by
  unfold least
  split
  · assumption
  · exact h
/-- What a table holds: its room, its connections. -/
structure Ts where
  rm : Int
  l : List Cn
structure Ts.ok (s : Ts) : Prop where
  okp : ∀ e ∈ s.l, e.okp
  r0 : 1 ≤ s.rm
  r1 : s.rm ≤ 256
  len : (s.l.length : Int) ≤ s.rm
theorem Ts.ok.set {s : Ts} (h : s.ok) (i : Nat) {y : Cn} (hy : y.okp) : ({ s with l := s.l.set i y } : Ts).ok := by
  refine ⟨fun e he => ?_, h.r0, h.r1, by show ((s.l.set i y).length : Int) ≤ s.rm; rw [List.length_set]; exact h.len⟩
  rcases List.mem_or_eq_of_mem_set he with h1 | h1
  · exact h.okp e h1
  · rw [h1]; exact hy
theorem Ts.ok.put {s : Ts} (h : s.ok) {y : Cn} (hy : y.okp) (hr : (s.l.length : Int) < s.rm) : ({ s with l := s.l ++ [y] } : Ts).ok := by
  refine ⟨fun e he => ?_, h.r0, h.r1, by show ((s.l ++ [y]).length : Int) ≤ s.rm; rw [List.length_append, List.length_singleton]; omega⟩
  rcases List.mem_append.1 he with h1 | h1
  · exact h.okp e h1
  · rw [List.mem_singleton.1 h1]; exact hy
theorem Ts.ok.era {s : Ts} (h : s.ok) (i : Nat) : ({ s with l := s.l.eraseIdx i } : Ts).ok := by
  have hl : (s.l.eraseIdx i).length ≤ s.l.length := List.length_eraseIdx_le _ _
  exact ⟨fun e he => h.okp e ((List.eraseIdx_sublist _ _).subset he), h.r0, h.r1, by have := h.len; show ((s.l.eraseIdx i).length : Int) ≤ s.rm; omega⟩
theorem era_len {l : List Cn} {i : Nat} (h : i < l.length) : (l.eraseIdx i).length + 1 = l.length := by
  rw [List.length_eraseIdx_of_lt h]; omega
theorem idx_some {l : List Cn} {P : Cn → Bool} {i : Nat} (h : l.findIdx P = i) (hi : i < l.length) : ∃ x, l[i]? = some x ∧ P x = true ∧ ∀ (j : Nat) (e : Cn), j < i → l[j]? = some e → P e = false := by
  subst h
  refine ⟨l[l.findIdx P], List.getElem?_eq_getElem hi, List.findIdx_getElem, fun j e hj he => ?_⟩
  have h1 := List.not_of_lt_findIdx hj
  obtain ⟨h2, h3⟩ := List.getElem?_eq_some_iff.1 he
  rw [h3] at h1
  simpa using h1
theorem idx_none {l : List Cn} {P : Cn → Bool} (h : l.findIdx P = l.length) : ∀ e ∈ l, P e = false := by
  intro e he
  have h1 := List.findIdx_eq_length.1 h e he
  simpa using h1
theorem idx_none_of {l : List Cn} {P : Cn → Bool} (h : ∀ e ∈ l, P e = false) : l.findIdx P = l.length := by
  rw [List.findIdx_eq_length]
  intro e he
  simp [h e he]
theorem idx_at {l : List Cn} {P : Cn → Bool} {i : Nat} {x : Cn} (hx : l[i]? = some x) (hp : P x = true) (h : ∀ (j : Nat) (e : Cn), j < i → l[j]? = some e → P e = false) : l.findIdx P = i := by
  obtain ⟨h2, h3⟩ := List.getElem?_eq_some_iff.1 hx
  rw [List.findIdx_eq h2]
  refine ⟨by rw [h3]; exact hp, fun j hj => ?_⟩
  have := h j _ hj (List.getElem?_eq_getElem (by omega))
  simpa using this
end Go.Proofs.Ytjfkeocdojjpgaa
