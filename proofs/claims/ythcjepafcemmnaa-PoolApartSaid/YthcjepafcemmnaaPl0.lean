/- Leases as lists: slots of an address each, in ascending order; who has one, which is offered. No program. -/
import Derived.Test.YthcjepafcemmnaaAdm
namespace Go.Proofs.Ythcjepafcemmnaa
open Go.RowKit

theorem be_inj4 {a b c d a' b' c' d' : UInt8} (h : be [a, b, c, d] = be [a', b', c', d']) : a = a' ∧ b = b' ∧ c = c' ∧ d = d' := by
  have e : ∀ p q r s : UInt8, be [p, q, r, s] = ((p.toNat * 256 + q.toNat) * 256 + r.toNat) * 256 + s.toNat := fun p q r s => by simp [be]
  rw [e, e] at h
  have h0 := a.toNat_lt; have h1 := b.toNat_lt; have h2 := c.toNat_lt; have h3 := d.toNat_lt
  have g0 := a'.toNat_lt; have g1 := b'.toNat_lt; have g2 := c'.toNat_lt; have g3 := d'.toNat_lt
  refine ⟨UInt8.toNat_inj.1 ?_, UInt8.toNat_inj.1 ?_, UInt8.toNat_inj.1 ?_, UInt8.toNat_inj.1 ?_⟩ <;> omega
theorem Ad4.num_inj {x y : Ad4} (h : x.num = y.num) : x = y := by
  obtain ⟨a, b, c, d⟩ := x
  obtain ⟨a', b', c', d'⟩ := y
  obtain ⟨rfl, rfl, rfl, rfl⟩ := be_inj4 h
  rfl
def Ad4.zero : Ad4 := ⟨0, 0, 0, 0⟩
def Mc6.l (m : Mc6) : List UInt8 := [m.a, m.b, m.c, m.d, m.e, m.f]
def Ad4.l (x : Ad4) : List UInt8 := [x.a, x.b, x.c, x.d]
def Mc6.eqB (x y : Mc6) : Bool := x.l == y.l
def Ad4.eqB (x y : Ad4) : Bool := x.l == y.l
theorem Mc6.eqB_iff {x y : Mc6} : x.eqB y = true ↔ x = y := by
  obtain ⟨a, b, c, d, e, f⟩ := x
  obtain ⟨a', b', c', d', e', f'⟩ := y
  simp [Mc6.eqB, Mc6.l]
theorem Ad4.eqB_iff {x y : Ad4} : x.eqB y = true ↔ x = y := by
  obtain ⟨a, b, c, d⟩ := x
  obtain ⟨a', b', c', d'⟩ := y
  simp [Ad4.eqB, Ad4.l]
theorem Mc6.eqB_self (x : Mc6) : x.eqB x = true := Mc6.eqB_iff.2 rfl
theorem Ad4.eqB_self (x : Ad4) : x.eqB x = true := Ad4.eqB_iff.2 rfl
theorem Mc6.eqB_no {x y : Mc6} (h : x ≠ y) : x.eqB y = false := by
  cases e : x.eqB y with
  | false => rfl
  | true => exact absurd (Mc6.eqB_iff.1 e) h
theorem Ad4.eqB_no {x y : Ad4} (h : x ≠ y) : x.eqB y = false := by
  cases e : x.eqB y with
  | false => rfl
  | true => exact absurd (Ad4.eqB_iff.1 e) h
/-- A lease. -/
structure Le where
  m : Mc6
  ad : Ad4
  u : Int
/-- A slot: an address with its lease; fixed, leased, reported; barred until. -/
structure Sd where
  m : Mc6
  ad : Ad4
  u : Int
  fx : Bool
  le : Bool
  rp : Bool
  br : Int
def leE (e : Le) : List Value := [.int .u8 (e.m.a.toNat : Int), .int .u8 (e.m.b.toNat : Int), .int .u8 (e.m.c.toNat : Int), .int .u8 (e.m.d.toNat : Int), .int .u8 (e.m.e.toNat : Int), .int .u8 (e.m.f.toNat : Int), .int .u8 (e.ad.a.toNat : Int), .int .u8 (e.ad.b.toNat : Int), .int .u8 (e.ad.c.toNat : Int), .int .u8 (e.ad.d.toNat : Int), .int .i64 e.u]
def slE (e : Sd) : List Value := [.int .u8 (e.m.a.toNat : Int), .int .u8 (e.m.b.toNat : Int), .int .u8 (e.m.c.toNat : Int), .int .u8 (e.m.d.toNat : Int), .int .u8 (e.m.e.toNat : Int), .int .u8 (e.m.f.toNat : Int), .int .u8 (e.ad.a.toNat : Int), .int .u8 (e.ad.b.toNat : Int), .int .u8 (e.ad.c.toNat : Int), .int .u8 (e.ad.d.toNat : Int), .int .i64 e.u, .bool e.fx, .bool e.le, .bool e.rp, .int .i64 e.br]
theorem leE_len (e : Le) : (leE e).length = 11 := rfl
theorem slE_len (e : Sd) : (slE e).length = 15 := rfl
theorem leE_one (e : Le) : ∀ u ∈ leE e, u.oneCell' = true := by
  intro u hu
  simp only [leE, List.mem_cons, List.not_mem_nil, or_false] at hu
  rcases hu with h | h | h | h | h | h | h | h | h | h | h <;> rw [h] <;> rfl
theorem slE_one (e : Sd) : ∀ u ∈ slE e, u.oneCell' = true := by
  intro u hu
  simp only [slE, List.mem_cons, List.not_mem_nil, or_false] at hu
  rcases hu with h | h | h | h | h | h | h | h | h | h | h | h | h | h | h <;> rw [h] <;> rfl
def Sd.num (e : Sd) : Nat := e.ad.num
def Sd.lease (e : Sd) : Le := ⟨e.m, e.ad, e.u⟩
/-- Ascending. -/
def SSrt (l : List Sd) : Prop := l.Pairwise (fun x y => x.num < y.num)
/-- Where an address stands, or would stand; does it stand there? -/
def sfpos (l : List Sd) (x : Nat) : Nat := l.countP (fun e => decide (e.num < x))
def sfhas (l : List Sd) (x : Nat) : Bool := match l[sfpos l x]? with
  | some e => e.num == x
  | none => false
theorem sfpos_le (l : List Sd) (x : Nat) : sfpos l x ≤ l.length := List.countP_le_length
theorem sfpos_of {l : List Sd} {x i : Nat} (hi : i ≤ l.length) (h1 : ∀ j e, j < i → l[j]? = some e → e.num < x) (h2 : ∀ j e, i ≤ j → l[j]? = some e → x ≤ e.num) : sfpos l x = i := by
  unfold sfpos
  have e : l = l.take i ++ l.drop i := (List.take_append_drop i l).symm
  rw [e, List.countP_append]
  have a1 : (l.take i).countP (fun e => decide (e.num < x)) = i := by
    have : (l.take i).countP (fun e => decide (e.num < x)) = (l.take i).length := by
      rw [List.countP_eq_length]
      intro y hy
      obtain ⟨j, hj⟩ := List.getElem?_of_mem hy
      rw [List.getElem?_take] at hj
      split at hj
      · simpa using h1 j y ‹_› hj
      · cases hj
    rw [this, List.length_take]; omega
  have a2 : (l.drop i).countP (fun e => decide (e.num < x)) = 0 := by
    rw [List.countP_eq_zero]
    intro y hy
    obtain ⟨j, hj⟩ := List.getElem?_of_mem hy
    rw [List.getElem?_drop] at hj
    have := h2 (i + j) y (by omega) hj
    simp; omega
  rw [a1, a2, Nat.add_zero]
theorem SSrt.lt {l : List Sd} (h : SSrt l) {i j : Nat} {x y : Sd} (hij : i < j) (hx : l[i]? = some x) (hy : l[j]? = some y) : x.num < y.num := by
  obtain ⟨h1, e1⟩ := List.getElem?_eq_some_iff.1 hx
  obtain ⟨h2, e2⟩ := List.getElem?_eq_some_iff.1 hy
  have := List.pairwise_iff_getElem.1 h i j h1 h2 hij
  rw [e1, e2] at this
  exact this
theorem SSrt.before {l : List Sd} (h : SSrt l) {x j : Nat} {e : Sd} (hj : j < sfpos l x) (he : l[j]? = some e) : e.num < x := by
  rcases Nat.lt_or_ge e.num x with h1 | h1
  · exact h1
  · exfalso
    -- all from j on are not below x
    have hl := (List.getElem?_eq_some_iff.1 he).1
    have e2 : l = l.take j ++ l.drop j := (List.take_append_drop j l).symm
    have a2 : (l.drop j).countP (fun e => decide (e.num < x)) = 0 := by
      rw [List.countP_eq_zero]
      intro y hy
      obtain ⟨i, hi⟩ := List.getElem?_of_mem hy
      rw [List.getElem?_drop] at hi
      rcases Nat.eq_zero_or_pos i with h0 | h0
      · subst h0
        rw [Nat.add_zero, he] at hi
        cases hi
        simp; omega
      · have := h.lt (by omega : j < j + i) he hi
        simp; omega
    have a1 : (l.take j).countP (fun e => decide (e.num < x)) ≤ j := by
      have := List.countP_le_length (p := fun e => decide (Sd.num e < x)) (l := l.take j)
      rw [List.length_take] at this; omega
    have : sfpos l x ≤ j := by
      unfold sfpos
      rw [e2, List.countP_append, a2]; omega
    omega
theorem SSrt.after {l : List Sd} (h : SSrt l) {x j : Nat} {e : Sd} (hj : sfpos l x ≤ j) (he : l[j]? = some e) : x ≤ e.num := by
  rcases Nat.lt_or_ge e.num x with h1 | h1
  · exfalso
    have hl := (List.getElem?_eq_some_iff.1 he).1
    have e2 : l = l.take (j + 1) ++ l.drop (j + 1) := (List.take_append_drop (j + 1) l).symm
    have a1 : (l.take (j + 1)).countP (fun e => decide (e.num < x)) = j + 1 := by
      have : (l.take (j + 1)).countP (fun e => decide (e.num < x)) = (l.take (j + 1)).length := by
        rw [List.countP_eq_length]
        intro y hy
        obtain ⟨i, hi⟩ := List.getElem?_of_mem hy
        rw [List.getElem?_take] at hi
        split at hi
        · rcases Nat.lt_or_ge i j with h0 | h0
          · have := h.lt h0 hi he
            simp; omega
          · obtain rfl : i = j := by omega
            rw [he] at hi
            cases hi
            simpa using h1
        · cases hi
      rw [this, List.length_take]; omega
    have : j + 1 ≤ sfpos l x := by
      unfold sfpos
      rw [e2, List.countP_append, a1]; omega
    omega
  · exact h1
theorem sfhas_true {l : List Sd} {x : Nat} (h : sfhas l x = true) : ∃ e, l[sfpos l x]? = some e ∧ e.num = x := by
  unfold sfhas at h
  cases he : l[sfpos l x]? with
  | none => rw [he] at h; cases h
  | some e => rw [he] at h; exact ⟨e, rfl, by simpa using h⟩
theorem SSrt.found {l : List Sd} (h : SSrt l) {x j : Nat} {e : Sd} (he : l[j]? = some e) (hx : e.num = x) : sfpos l x = j ∧ sfhas l x = true := by
  have hp : sfpos l x = j := by
    apply sfpos_of
    · have := (List.getElem?_eq_some_iff.1 he).1; omega
    · intro i y hi hy
      have := h.lt hi hy he; omega
    · intro i y hi hy
      rcases Nat.lt_or_ge j i with h0 | h0
      · have := h.lt h0 he hy; omega
      · obtain rfl : i = j := by omega
        rw [he] at hy; cases hy; omega
  refine ⟨hp, ?_⟩
  unfold sfhas
  rw [hp, he]
  simpa using hx
theorem SSrt.none {l : List Sd} {x : Nat} (hx : ∀ e ∈ l, e.num ≠ x) : sfhas l x = false := by
  cases hb : sfhas l x with
  | false => rfl
  | true =>
    obtain ⟨e, he, hn⟩ := sfhas_true hb
    exact absurd hn (hx e (List.mem_of_getElem? he))
/-- An entry is laid in its place. -/
def sins (l : List Sd) (e : Sd) : List Sd := l.take (sfpos l e.num) ++ e :: l.drop (sfpos l e.num)
theorem sins_len (l : List Sd) (e : Sd) : (sins l e).length = l.length + 1 := by
  have := sfpos_le l e.num
  unfold sins
  simp; omega
theorem SSrt.insd {l : List Sd} (h : SSrt l) {e : Sd} (hn : sfhas l e.num = false) : SSrt (sins l e) := by
  unfold sins SSrt
  rw [List.pairwise_append, List.pairwise_cons]
  have hne : ∀ y, l[sfpos l e.num]? = some y → y.num ≠ e.num := fun y hy heq => by
    unfold sfhas at hn
    rw [hy] at hn
    simp at hn
    exact hn heq
  have hgt : ∀ y ∈ l.drop (sfpos l e.num), e.num < y.num := by
    intro y hy
    obtain ⟨i, hi⟩ := List.getElem?_of_mem hy
    rw [List.getElem?_drop] at hi
    have h1 := h.after (Nat.le_add_right _ i) hi
    rcases Nat.eq_zero_or_pos i with h0 | h0
    · subst h0
      rw [Nat.add_zero] at hi
      have := hne y hi; omega
    · have hp : sfpos l e.num < l.length := by have := (List.getElem?_eq_some_iff.1 hi).1; omega
      have h2 := h.lt (by omega : sfpos l e.num < sfpos l e.num + i) (List.getElem?_eq_getElem hp) hi
      have h3 := h.after (Nat.le_refl _) (List.getElem?_eq_getElem hp)
      omega
  have hlt : ∀ y ∈ l.take (sfpos l e.num), y.num < e.num := by
    intro y hy
    obtain ⟨i, hi⟩ := List.getElem?_of_mem hy
    rw [List.getElem?_take] at hi
    split at hi
    · exact h.before ‹_› hi
    · cases hi
  refine ⟨List.Pairwise.sublist (List.take_sublist _ _) h, ⟨hgt, List.Pairwise.sublist (List.drop_sublist _ _) h⟩, ?_⟩
  intro y hy z hz
  have h1 := hlt y hy
  rcases List.mem_cons.1 hz with rfl | hz
  · exact h1
  · have := hgt z hz; omega
theorem sins_mem {l : List Sd} {e x : Sd} (h : x ∈ sins l e) : x = e ∨ x ∈ l := by
  unfold sins at h
  rcases List.mem_append.1 h with h | h
  · exact .inr (List.mem_of_mem_take h)
  · rcases List.mem_cons.1 h with h | h
    · exact .inl h
    · exact .inr (List.mem_of_mem_drop h)
theorem SSrt.set {l : List Sd} (h : SSrt l) {i : Nat} {x y : Sd} (hx : l[i]? = some x) (hy : y.num = x.num) : SSrt (l.set i y) := by
  unfold SSrt
  rw [List.pairwise_iff_getElem]
  intro a b ha hb hab
  rw [List.length_set] at ha hb
  have e : ∀ c (hc : c < l.length), ((l.set i y)[c]'(by rw [List.length_set]; exact hc)).num = (l[c]).num := fun c hc => by
    rw [List.getElem_set]
    split
    · rename_i hic
      subst hic
      rw [hy]
      rw [List.getElem?_eq_getElem hc] at hx
      cases hx; rfl
    · rfl
  rw [e a ha, e b hb]
  exact List.pairwise_iff_getElem.1 h a b ha hb hab
/-- The clock. -/
def padv (now t : Int) : Int := if now < t ∧ t ≤ 1099511627776 then t else now
theorem padv_ge (now t : Int) : now ≤ padv now t := by unfold padv; split <;> omega
theorem padv_le {now t : Int} (h : now ≤ 1099511627776) : padv now t ≤ 1099511627776 := by unfold padv; split <;> omega
def permB (secs : Int) : Bool := decide (1 ≤ secs) && decide (secs ≤ 1000000000)
def Sd.liveB (now : Int) (e : Sd) : Bool := decide (now < e.u)
def Sd.heldB (m : Mc6) (now : Int) (e : Sd) : Bool := e.liveB now && e.m.eqB m
def Sd.freeB (now : Int) (e : Sd) : Bool := !e.fx && (!e.liveB now && decide (e.br ≤ now))
def Sd.rank (m : Mc6) (e : Sd) : Int := if e.le = true then (if e.m.eqB m = true then -2 else e.u) else -1
def Sd.overB (now : Int) (e : Sd) : Bool := e.le && (!e.rp && !e.liveB now)
/-- The slot of the live lease of m. -/
def hldF (m : Mc6) (now : Int) (l : List Sd) : Option Nat := l.findIdx? (fun e => e.heldB m now)
theorem hldF_none {m : Mc6} {now : Int} {l : List Sd} (h : ∀ (q : Nat) (e : Sd), l[q]? = some e → e.heldB m now = false) : hldF m now l = none := by
  unfold hldF
  rw [List.findIdx?_eq_none_iff]
  intro e he
  obtain ⟨q, hq⟩ := List.getElem?_of_mem he
  exact h q e hq
theorem hldF_some {m : Mc6} {now : Int} {l : List Sd} {i : Nat} {x : Sd} (hx : l[i]? = some x) (hb : x.heldB m now = true) (h : ∀ (q : Nat) (e : Sd), q < i → l[q]? = some e → e.heldB m now = false) : hldF m now l = some i := by
  unfold hldF
  obtain ⟨hi, e1⟩ := List.getElem?_eq_some_iff.1 hx
  rw [List.findIdx?_eq_some_iff_getElem]
  refine ⟨hi, by rw [e1]; exact hb, fun j hj => ?_⟩
  have := h j l[j] hj (List.getElem?_eq_getElem _)
  simp [this]
theorem hldF_at {m : Mc6} {now : Int} {l : List Sd} {i : Nat} (h : hldF m now l = some i) : ∃ x, l[i]? = some x ∧ x.heldB m now = true := by
  unfold hldF at h
  rw [List.findIdx?_eq_some_iff_getElem] at h
  obtain ⟨hi, h1, _⟩ := h
  exact ⟨_, List.getElem?_eq_getElem hi, h1⟩
theorem hldF_no {m : Mc6} {now : Int} {l : List Sd} (h : hldF m now l = none) : ∀ (q : Nat) (e : Sd), l[q]? = some e → e.heldB m now = false := by
  unfold hldF at h
  rw [List.findIdx?_eq_none_iff] at h
  intro q e he
  exact h e (List.mem_of_getElem? he)
/-- Is one better for m than the best so far (and free)? -/
def betB (m : Mc6) (now : Int) (l : List Sd) (a : Option Nat) (e : Sd) : Bool := e.freeB now && (match a with
  | none => true
  | some i => match l[i]? with
    | none => false
    | some x => decide (e.rank m < x.rank m))
/-- The best free slot for m of the first j. -/
def bestF (m : Mc6) (now : Int) (l : List Sd) : Nat → Option Nat
  | 0 => none
  | j + 1 => match l[j]? with
    | none => bestF m now l j
    | some e => if betB m now l (bestF m now l j) e = true then some j else bestF m now l j
theorem bestF_lt (m : Mc6) (now : Int) (l : List Sd) : ∀ j i, j ≤ l.length → bestF m now l j = some i → i < j := by
  intro j
  induction j with
  | zero => intro i _ h; cases h
  | succ j ih =>
    intro i hj h
    unfold bestF at h
    rw [List.getElem?_eq_getElem (by omega)] at h
    simp only at h
    by_cases hb : betB m now l (bestF m now l j) l[j] = true
    · rw [if_pos hb] at h
      cases h; omega
    · rw [if_neg hb] at h
      have := ih i (by omega) h; omega
theorem bestF_free (m : Mc6) (now : Int) (l : List Sd) : ∀ j i, j ≤ l.length → bestF m now l j = some i → ∃ x, l[i]? = some x ∧ x.freeB now = true := by
  intro j
  induction j with
  | zero => intro i _ h; cases h
  | succ j ih =>
    intro i hj h
    unfold bestF at h
    rw [List.getElem?_eq_getElem (by omega)] at h
    simp only at h
    by_cases hb : betB m now l (bestF m now l j) l[j] = true
    · rw [if_pos hb] at h
      cases h
      refine ⟨_, List.getElem?_eq_getElem (by omega), ?_⟩
      unfold betB at hb
      simp only [Bool.and_eq_true] at hb
      exact hb.1
    · rw [if_neg hb] at h
      exact ih i (by omega) h
/-- What a pool holds: its clock, the fixed addresses, the slots. -/
structure St where
  now : Int
  hs : List (Mc6 × Ad4)
  l : List Sd
def homeF (hs : List (Mc6 × Ad4)) (m : Mc6) : Option Ad4 := (hs.find? (fun p => p.1.eqB m)).map (·.2)
/-- Why m may not have a. -/
def mayE (s : St) (m : Mc6) (a : Ad4) : Int := match homeF s.hs m with
  | some h => if a.eqB h = true then 0 else 8
  | none => if sfhas s.l a.num = true then (match s.l[sfpos s.l a.num]? with
    | none => 6
    | some x => if x.fx = true then 6 else if (!x.freeB s.now && !x.heldB m s.now) = true then 8 else 0) else 6
def endL (m : Mc6) (now : Int) (l : List Sd) : List Sd := match hldF m now l with
  | some i => l.modify i (fun x => { x with u := 0 })
  | none => l
def putL (l : List Sd) (m : Mc6) (a : Ad4) (u : Int) : List Sd := l.modify (sfpos l a.num) (fun x => ⟨m, a, u, x.fx, true, false, x.br⟩)
def St.adv (s : St) (t : Int) : St := { s with now := padv s.now t }
def takeS (s : St) (m : Mc6) (a : Ad4) (t secs : Int) : Int × St :=
  if permB secs = true then (if (mayE (s.adv t) m a == 0) = true then (0, { s.adv t with l := putL (endL m (s.adv t).now s.l) m a ((s.adv t).now + secs) }) else (mayE (s.adv t) m a, s.adv t)) else (1, s.adv t)
def offerS (s : St) (m : Mc6) (w : Ad4) (t : Int) : Ad4 × Int := match homeF s.hs m with
  | some h => (h, 0)
  | none => match hldF m (s.adv t).now s.l with
    | some i => (((s.l[i]?).map (·.ad)).getD Ad4.zero, 0)
    | none => if (sfhas s.l w.num && (match s.l[sfpos s.l w.num]? with
        | none => false
        | some x => x.freeB (s.adv t).now)) = true then (w, 0)
      else match bestF m (s.adv t).now s.l s.l.length with
        | none => (Ad4.zero, 7)
        | some i => (((s.l[i]?).map (·.ad)).getD Ad4.zero, 0)
def endB (s : St) (m : Mc6) (a : Ad4) : Bool := sfhas s.l a.num && (match s.l[sfpos s.l a.num]? with
  | none => false
  | some x => x.le && x.m.eqB m)
def endS (s : St) (m : Mc6) (a : Ad4) : St := if endB s m a = true then { s with l := s.l.modify (sfpos s.l a.num) (fun x => { x with u := 0 }) } else s
def barB (s : St) (a : Ad4) (secs : Int) : Bool := sfhas s.l a.num && ((match s.l[sfpos s.l a.num]? with
  | none => false
  | some x => !x.fx) && permB secs)
def barS (s : St) (a : Ad4) (t secs : Int) : St := if barB s a secs = true then { s.adv t with l := s.l.modify (sfpos s.l a.num) (fun x => { x with u := 0, br := (s.adv t).now + secs }) } else s.adv t
def tickO (now : Int) (l : List Sd) : List Le := (l.filter (fun e => e.overB now)).map (·.lease)
def tickL (now : Int) (l : List Sd) : List Sd := l.map (fun e => if e.overB now = true then { e with rp := true } else e)
def allO (now : Int) (l : List Sd) : List Le := (l.filter (fun e => e.liveB now)).map (·.lease)
def ofS (s : St) (m : Mc6) (t : Int) : Ad4 × Bool := match hldF m (s.adv t).now s.l with
  | some i => (((s.l[i]?).map (·.ad)).getD Ad4.zero, true)
  | none => (Ad4.zero, false)
/-- A pool in order. -/
structure St.ok (s : St) : Prop where
  srt : SSrt s.l
  n0 : 0 ≤ s.now
  n1 : s.now ≤ 1099511627776
  len : s.l.length ≤ 1000
  hom : ∀ p ∈ s.hs, sfhas s.l p.2.num = true
theorem St.ok.adv {s : St} (h : s.ok) (t : Int) : (s.adv t).ok := ⟨h.srt, by have := padv_ge s.now t; have := h.n0; show 0 ≤ padv s.now t; omega, padv_le h.n1, h.len, h.hom⟩
/-- Slots whose addresses are as they were. -/
theorem ssrt_map {l l' : List Sd} (h : l'.map Sd.num = l.map Sd.num) (hs : SSrt l) : SSrt l' := by
  unfold SSrt at *
  rw [← List.pairwise_map (f := Sd.num) (R := fun a b => a < b)] at *
  rw [h]; exact hs
theorem sfpos_map {l l' : List Sd} (h : l'.map Sd.num = l.map Sd.num) (x : Nat) : sfpos l' x = sfpos l x := by
  have e : ∀ q : List Sd, sfpos q x = (q.map Sd.num).countP (fun n => decide (n < x)) := fun q => by rw [List.countP_map]; rfl
  rw [e, e, h]
theorem sfhas_map {l l' : List Sd} (h : l'.map Sd.num = l.map Sd.num) (x : Nat) : sfhas l' x = sfhas l x := by
  have e : ∀ q : List Sd, sfhas q x = (match (q.map Sd.num)[sfpos q x]? with
    | some n => n == x
    | none => false) := fun q => by
    unfold sfhas
    rw [List.getElem?_map]
    cases q[sfpos q x]? <;> rfl
  rw [e, e, h, sfpos_map h]
theorem map_modify {l : List Sd} {i : Nat} {f : Sd → Sd} (h : ∀ x, l[i]? = some x → (f x).num = x.num) : (l.modify i f).map Sd.num = l.map Sd.num := by
  apply List.ext_getElem?
  intro j
  rw [List.getElem?_map, List.getElem?_map, List.getElem?_modify]
  cases hj : l[j]? with
  | none => simp
  | some x =>
    by_cases e : i = j
    · subst e; simp [h x hj]
    · simp [e]
theorem map_set {l : List Sd} {i : Nat} {x y : Sd} (hx : l[i]? = some x) (h : y.num = x.num) : (l.set i y).map Sd.num = l.map Sd.num := by
  apply List.ext_getElem?
  intro j
  rw [List.getElem?_map, List.getElem?_map, List.getElem?_set]
  by_cases e : i = j
  · subst e
    have hi := (List.getElem?_eq_some_iff.1 hx).1
    rw [if_pos rfl, if_pos hi, hx]
    simp [h]
  · rw [if_neg e]
theorem modify_at {l : List Sd} {i : Nat} {x : Sd} {f : Sd → Sd} (hx : l[i]? = some x) : l.modify i f = l.set i (f x) := by
  apply List.ext_getElem?
  intro j
  rw [List.getElem?_modify, List.getElem?_set]
  have hi := (List.getElem?_eq_some_iff.1 hx).1
  by_cases e : i = j
  · subst e
    rw [if_pos rfl, if_pos hi, hx]
    simp
  · rw [if_neg e]
    simp [e]
theorem St.ok.same {s s' : St} (h : s.ok) (h1 : s'.l.map Sd.num = s.l.map Sd.num) (h2 : s'.hs = s.hs) (h3 : 0 ≤ s'.now) (h4 : s'.now ≤ 1099511627776) : s'.ok :=
  ⟨ssrt_map h1 h.srt, h3, h4, by have := congrArg List.length h1; simp at this; have := h.len; omega, fun p hp => by rw [sfhas_map h1]; exact h.hom p (h2 ▸ hp)⟩
theorem endL_map (m : Mc6) (now : Int) (l : List Sd) : (endL m now l).map Sd.num = l.map Sd.num := by
  unfold endL
  split
  · exact map_modify (fun _ _ => rfl)
  · rfl
/-- Where an address stands that is there. -/
theorem sfhas_at {l : List Sd} {a : Ad4} (h : sfhas l a.num = true) : ∃ x, l[sfpos l a.num]? = some x ∧ x.ad = a := by
  obtain ⟨x, hx, hn⟩ := sfhas_true h
  exact ⟨x, hx, Ad4.num_inj hn⟩
theorem putL_map {l : List Sd} {m : Mc6} {a : Ad4} {u : Int} (h : sfhas l a.num = true) : (putL l m a u).map Sd.num = l.map Sd.num := map_modify (fun x hx => by
  obtain ⟨y, hy, he⟩ := sfhas_at h
  rw [hx] at hy
  cases hy
  show a.num = x.ad.num
  rw [he])
theorem mayE_has {s : St} (h : s.ok) {m : Mc6} {a : Ad4} (he : mayE s m a = 0) : sfhas s.l a.num = true := by
  unfold mayE at he
  cases hh : homeF s.hs m with
  | some b =>
    rw [hh] at he
    simp only at he
    by_cases e : a.eqB b = true
    · obtain rfl := Ad4.eqB_iff.1 e
      unfold homeF at hh
      cases hf : s.hs.find? (fun p => p.1.eqB m) with
      | none => rw [hf] at hh; cases hh
      | some p =>
        rw [hf] at hh
        have hp := List.mem_of_find?_eq_some hf
        have : p.2 = a := by simpa using hh
        rw [← this]; exact h.hom p hp
    · rw [if_neg e] at he; cases he
  | none =>
    rw [hh] at he
    simp only at he
    by_cases e : sfhas s.l a.num = true
    · exact e
    · rw [if_neg e] at he; cases he
theorem takeS_ok {s : St} (h : s.ok) (m : Mc6) (a : Ad4) (t secs : Int) : (takeS s m a t secs).2.ok := by
  unfold takeS
  split
  · split
    · rename_i he
      have hh := mayE_has (h.adv t) (by simpa using he)
      refine (h.adv t).same ?_ rfl (h.adv t).n0 (h.adv t).n1
      show (putL (endL m (s.adv t).now s.l) m a _).map Sd.num = s.l.map Sd.num
      rw [putL_map (by rw [sfhas_map (endL_map _ _ _)]; exact hh), endL_map]
    · exact h.adv t
  · exact h.adv t
theorem endS_ok {s : St} (h : s.ok) (m : Mc6) (a : Ad4) : (endS s m a).ok := by
  unfold endS
  split
  · exact h.same (map_modify (fun _ _ => rfl)) rfl h.n0 h.n1
  · exact h
theorem barS_ok {s : St} (h : s.ok) (a : Ad4) (t secs : Int) : (barS s a t secs).ok := by
  unfold barS
  split
  · exact (h.adv t).same (map_modify (fun _ _ => rfl)) rfl (h.adv t).n0 (h.adv t).n1
  · exact h.adv t
theorem tickL_map (now : Int) (l : List Sd) : (tickL now l).map Sd.num = l.map Sd.num := by
  unfold tickL
  rw [List.map_map]
  apply List.map_congr_left
  intro x _
  rw [Function.comp_apply]
  by_cases h : x.overB now = true
  · simp only [h, if_true]; rfl
  · rw [if_neg h]
theorem tickS_ok {s : St} (h : s.ok) (t : Int) : ({ s.adv t with l := tickL (s.adv t).now s.l } : St).ok := (h.adv t).same (tickL_map _ _) rfl (h.adv t).n0 (h.adv t).n1
end Go.Proofs.Ythcjepafcemmnaa
