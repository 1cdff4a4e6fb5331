/- Texts put together: Sla, Dht, Adm, Pl0, Plm, Num, Pl1. -/
import Derived.Test.YtapdmlfjohiekaaQ1
import Derived.Deep.RegionHeld3
import Derived.DeepKeys4
import Derived.Maps.Keyed
import Derived.Maps.Own
import Derived.Stop.BytesEq
import Derived.Laws.ResultCell
import Derived.IntWalk
namespace Go.Proofs.Ytapdmlfjohiekaa
open Go.RowKit

theorem sl_at {w : World} {g o n c j : Nat} {l : List UInt8} {x : UInt8} (h : Sl w (some ⟨g, o, none⟩) n c l) (hx : l[j]? = some x) : w.cell? ⟨g, o + j, none⟩ = some (.int .u8 (x.toNat : Int)) := by
  obtain ⟨h1, h2, h3, h4⟩ := h
  have hj : j < l.length := by
    rcases Nat.lt_or_ge j l.length with h | h
    · exact h
    · rw [List.getElem?_eq_none h] at hx
      exact absurd hx (by simp)
  obtain ⟨g', o', e, hc⟩ := h4 (by omega)
  injection e with e
  injection e with e1 e2
  subst e1
  subst e2
  exact hc j x hx
open Go.RowKit

/-- The numbers and bytes of a message. -/
structure Mh where
  op : Int
  hops : Int
  xid : Int
  secs : Int
  flags : Int
  (c0 c1 c2 c3 y0 y1 y2 y3 s0 s1 s2 s3 r0 r1 r2 r3 m0 m1 m2 m3 m4 m5 : UInt8)
/-- No message. -/
def Mh.zero : Mh := ⟨0, 0, 0, 0, 0, 0, 0, 0, 0, 0, 0, 0, 0, 0, 0, 0, 0, 0, 0, 0, 0, 0, 0, 0, 0, 0, 0⟩
/-- The type that the options tell. -/
def typeL (L : OptL) : Nat := match findL L 53 with
  | some [b] => if b.toNat ≤ 8 then b.toNat else 0
  | _ => 0
theorem type_one {L : OptL} {b : UInt8} (h : (findL L 53).getD [] = [b]) : typeL L = if b.toNat ≤ 8 then b.toNat else 0 := by
  unfold typeL
  cases hf : findL L 53 with
  | none => rw [hf] at h; simp at h
  | some l => rw [hf] at h; simp at h; subst h; rfl
theorem type_not {L : OptL} (h : ¬ ((findL L 53).getD []).length = 1) : typeL L = 0 := by
  unfold typeL
  cases hf : findL L 53 with
  | none => rfl
  | some l =>
    rw [hf] at h
    match l, h with
    | [], _ => rfl
    | [b], h => simp at h
    | _ :: _ :: _, _ => rfl
set_option linter.unusedVariables false in
set_option linter.unusedSimpArgs false in
set_option maxRecDepth 100000 in
set_option maxHeartbeats 16000000 in
theorem dtype_any {h : Mh} {A : Option Addr} {n c : Nat} {hs : List Oh} {L : OptL} (w : World) (en : Sle opE 2 w A n c hs) (hbd : Bd w hs L) (hn : n ≤ 100000) (hb : ∀ x ∈ hs, x.n ≤ 100000) : Calls Try.prog 15 #[.agg #[.int .i64 h.op, .int .i64 h.hops, .int .u32 h.xid, .int .i64 h.secs, .int .i64 h.flags, .int .u8 (h.c0.toNat : Int), .int .u8 (h.c1.toNat : Int), .int .u8 (h.c2.toNat : Int), .int .u8 (h.c3.toNat : Int), .int .u8 (h.y0.toNat : Int), .int .u8 (h.y1.toNat : Int), .int .u8 (h.y2.toNat : Int), .int .u8 (h.y3.toNat : Int), .int .u8 (h.s0.toNat : Int), .int .u8 (h.s1.toNat : Int), .int .u8 (h.s2.toNat : Int), .int .u8 (h.s3.toNat : Int), .int .u8 (h.r0.toNat : Int), .int .u8 (h.r1.toNat : Int), .int .u8 (h.r2.toNat : Int), .int .u8 (h.r3.toNat : Int), .int .u8 (h.m0.toNat : Int), .int .u8 (h.m1.toNat : Int), .int .u8 (h.m2.toNat : Int), .int .u8 (h.m3.toNat : Int), .int .u8 (h.m4.toNat : Int), .int .u8 (h.m5.toNat : Int), .slice A n c]] w fun e w' => e = .returned (.int .i64 (typeL L : Int)) ∧ Below w.heap.size w w' := by
  have bel := Below.refl w.heap.size w
  go_enter Try.func15, Try.ntmps15
  go_wp2_with (first | ((with_reducible show wpList _ _ _ (⟨some 1, _, _, _, _, _⟩ :: _) _ _); refine wpList_box_n rfl 41 (.tmp 0) rfl #[.int .i64 h.op, .int .i64 h.hops, .int .u32 h.xid, .int .i64 h.secs, .int .i64 h.flags, .int .u8 (h.c0.toNat : Int), .int .u8 (h.c1.toNat : Int), .int .u8 (h.c2.toNat : Int), .int .u8 (h.c3.toNat : Int), .int .u8 (h.y0.toNat : Int), .int .u8 (h.y1.toNat : Int), .int .u8 (h.y2.toNat : Int), .int .u8 (h.y3.toNat : Int), .int .u8 (h.s0.toNat : Int), .int .u8 (h.s1.toNat : Int), .int .u8 (h.s2.toNat : Int), .int .u8 (h.s3.toNat : Int), .int .u8 (h.r0.toNat : Int), .int .u8 (h.r1.toNat : Int), .int .u8 (h.r2.toNat : Int), .int .u8 (h.r3.toNat : Int), .int .u8 (h.m0.toNat : Int), .int .u8 (h.m1.toNat : Int), .int .u8 (h.m2.toNat : Int), .int .u8 (h.m3.toNat : Int), .int .u8 (h.m4.toNat : Int), .int .u8 (h.m5.toNat : Int), .slice A n c] rfl ?_; intro g1 w1 ge lt hh bb; have av_en_p := en.av_new ge; have op := Nat.le_trans bel.size ge; replace en := en.below bb; replace bel := bel.trans (bb.mono bel.size); have hp := hh; clear hh lt ge bb; have R7 := cell_lit hp 27 _ rfl))
  try clear R7
  with_reducible refine (ofind_any _ en (hbd.below bel) hn hb).mono ?_
  rintro e w2 ⟨A2, n2, c2, rfl, sb, b2⟩
  replace hp := blk_u hp b2
  replace en := en.below b2
  replace bel := bel.trans (b2.mono bel.size)
  clear b2
  replace sb : Sl w2 (A2) (n2) (c2) ((findL L 53).getD []) := sb
  by_cases h1 : n2 = 1
  rotate_left
  · have e4 : ((n2 : Int) != 1) = true := by rw [bne, beq_eq_false_iff_ne.2 (by omega : ¬ (n2 : Int) = 1)]; rfl
    have HP : Hid (typeL L = 0) := Lib.hid (type_not (by rw [sb.1]; exact h1))
    clear h1
    go_wp2_with fail
    go_ret
    exact ⟨by rw [HP.out]; rfl, bel⟩
  obtain ⟨b, hq⟩ : ∃ b, (findL L 53).getD [] = [b] := by
    have h2 := sb.1.trans h1
    match (findL L 53).getD [], h2 with
    | [b], _ => exact ⟨b, rfl⟩
  have HQ := Lib.hid hq
  rw [hq] at sb
  subst h1
  obtain ⟨g2, o2, rfl⟩ := Sl.spot sb (by omega)
  have n01 : (0 : Int) < ((1 : Nat) : Int) := by omega
  have b0 : (0 : Int) ≤ b.toNat := by omega
  have b1 : (b.toNat : Int) < 256 := by have := b.toNat_lt; omega
  clear hq
  by_cases hb8 : b.toNat ≤ 8
  rotate_left
  · have h8 : (8 : Int) < b.toNat := by omega
    have HP : Hid (typeL L = 0) := Lib.hid (by rw [type_one HQ.out, if_neg (by omega)])
    clear hb8
    have R17 := (by have h_ := sl_at sb (j := 0) rfl; rw [Nat.add_zero] at h_; exact h_)
    go_wp2_with fail
    clear R17
    go_ret
    exact ⟨by rw [HP.out]; rfl, bel⟩
  have h8 : decide ((8 : Int) < b.toNat) = false := decide_eq_false (by omega)
  have HP : Hid (typeL L = b.toNat) := Lib.hid (by rw [type_one HQ.out, if_pos hb8])
  clear hb8
  have R17 := (by have h_ := sl_at sb (j := 0) rfl; rw [Nat.add_zero] at h_; exact h_)
  have R22 := (by have h_ := sl_at sb (j := 0) rfl; rw [Nat.add_zero] at h_; exact h_)
  go_wp2_with fail
  clear R17 R22
  go_ret
  exact ⟨by rw [HP.out]; rfl, bel⟩
open Go.RowKit

structure Ad4 where
  (a b c d : UInt8)
structure Mc6 where
  (a b c d e f : UInt8)
def Ad4.num (x : Ad4) : Nat := be [x.a, x.b, x.c, x.d]
theorem Ad4.lt (x : Ad4) : x.num < 4294967296 := be_lt 4 _ rfl
def Mc6.l (m : Mc6) : List UInt8 := [m.a, m.b, m.c, m.d, m.e, m.f]
def Mc6.zero : Mc6 := ⟨0, 0, 0, 0, 0, 0⟩
open Go.RowKit

theorem be_inj4 {a b c d a' b' c' d' : UInt8} (h : be [a, b, c, d] = be [a', b', c', d']) : a = a' ∧ b = b' ∧ c = c' ∧ d = d' := by
  have e : ∀ p q r s : UInt8, be [p, q, r, s] = ((p.toNat * 256 + q.toNat) * 256 + r.toNat) * 256 + s.toNat := fun p q r s => by simp [be]
  rw [e, e] at h
  have h0 := a.toNat_lt; have h1 := b.toNat_lt; have h2 := c.toNat_lt; have h3 := d.toNat_lt
  have g0 := a'.toNat_lt; have g1 := b'.toNat_lt; have g2 := c'.toNat_lt; have g3 := d'.toNat_lt
  refine ⟨UInt8.toNat_inj.1 ?_, UInt8.toNat_inj.1 ?_, UInt8.toNat_inj.1 ?_, UInt8.toNat_inj.1 ?_⟩ <;> omega
theorem Ad4.num_inj {x y : Ad4} (h : x.num = y.num) : x = y := by
  obtain ⟨a, b, c, d⟩ := x
  obtain ⟨a', b', c', d'⟩ := y
  obtain ⟨rfl, rfl, rfl, rfl⟩ := be_inj4 h
  rfl
def Ad4.zero : Ad4 := ⟨0, 0, 0, 0⟩
def Ad4.l (x : Ad4) : List UInt8 := [x.a, x.b, x.c, x.d]
def Mc6.eqB (x y : Mc6) : Bool := x.l == y.l
def Ad4.eqB (x y : Ad4) : Bool := x.l == y.l
theorem Mc6.eqB_iff {x y : Mc6} : x.eqB y = true ↔ x = y := by
  obtain ⟨a, b, c, d, e, f⟩ := x
  obtain ⟨a', b', c', d', e', f'⟩ := y
  simp [Mc6.eqB, Mc6.l]
theorem Ad4.eqB_iff {x y : Ad4} : x.eqB y = true ↔ x = y := by
  obtain ⟨a, b, c, d⟩ := x
  obtain ⟨a', b', c', d'⟩ := y
  simp [Ad4.eqB, Ad4.l]
theorem Mc6.eqB_self (x : Mc6) : x.eqB x = true := Mc6.eqB_iff.2 rfl
theorem Ad4.eqB_self (x : Ad4) : x.eqB x = true := Ad4.eqB_iff.2 rfl
theorem Mc6.eqB_no {x y : Mc6} (h : x ≠ y) : x.eqB y = false := by
  cases e : x.eqB y with
  | false => rfl
  | true => exact absurd (Mc6.eqB_iff.1 e) h
theorem Ad4.eqB_no {x y : Ad4} (h : x ≠ y) : x.eqB y = false := by
  cases e : x.eqB y with
  | false => rfl
  | true => exact absurd (Ad4.eqB_iff.1 e) h
/-- A lease. -/
structure Le where
  m : Mc6
  ad : Ad4
  u : Int
/-- A slot: an address with its lease; fixed, leased, reported; barred until. -/
structure Sd where
  m : Mc6
  ad : Ad4
  u : Int
  fx : Bool
  le : Bool
  rp : Bool
  br : Int
def leE (e : Le) : List Value := [.int .u8 (e.m.a.toNat : Int), .int .u8 (e.m.b.toNat : Int), .int .u8 (e.m.c.toNat : Int), .int .u8 (e.m.d.toNat : Int), .int .u8 (e.m.e.toNat : Int), .int .u8 (e.m.f.toNat : Int), .int .u8 (e.ad.a.toNat : Int), .int .u8 (e.ad.b.toNat : Int), .int .u8 (e.ad.c.toNat : Int), .int .u8 (e.ad.d.toNat : Int), .int .i64 e.u]
def slE (e : Sd) : List Value := [.int .u8 (e.m.a.toNat : Int), .int .u8 (e.m.b.toNat : Int), .int .u8 (e.m.c.toNat : Int), .int .u8 (e.m.d.toNat : Int), .int .u8 (e.m.e.toNat : Int), .int .u8 (e.m.f.toNat : Int), .int .u8 (e.ad.a.toNat : Int), .int .u8 (e.ad.b.toNat : Int), .int .u8 (e.ad.c.toNat : Int), .int .u8 (e.ad.d.toNat : Int), .int .i64 e.u, .bool e.fx, .bool e.le, .bool e.rp, .int .i64 e.br]
theorem leE_len (e : Le) : (leE e).length = 11 := rfl
theorem slE_len (e : Sd) : (slE e).length = 15 := rfl
theorem leE_one (e : Le) : ∀ u ∈ leE e, u.oneCell' = true := by
  intro u hu
  simp only [leE, List.mem_cons, List.not_mem_nil, or_false] at hu
  rcases hu with h | h | h | h | h | h | h | h | h | h | h <;> rw [h] <;> rfl
theorem slE_one (e : Sd) : ∀ u ∈ slE e, u.oneCell' = true := by
  intro u hu
  simp only [slE, List.mem_cons, List.not_mem_nil, or_false] at hu
  rcases hu with h | h | h | h | h | h | h | h | h | h | h | h | h | h | h <;> rw [h] <;> rfl
def Sd.num (e : Sd) : Nat := e.ad.num
def Sd.lease (e : Sd) : Le := ⟨e.m, e.ad, e.u⟩
/-- Ascending. -/
def SSrt (l : List Sd) : Prop := l.Pairwise (fun x y => x.num < y.num)
/-- Where an address stands, or would stand; does it stand there? -/
def sfpos (l : List Sd) (x : Nat) : Nat := l.countP (fun e => decide (e.num < x))
def sfhas (l : List Sd) (x : Nat) : Bool := match l[sfpos l x]? with
  | some e => e.num == x
  | none => false
theorem sfpos_le (l : List Sd) (x : Nat) : sfpos l x ≤ l.length := List.countP_le_length
theorem sfpos_of {l : List Sd} {x i : Nat} (hi : i ≤ l.length) (h1 : ∀ j e, j < i → l[j]? = some e → e.num < x) (h2 : ∀ j e, i ≤ j → l[j]? = some e → x ≤ e.num) : sfpos l x = i := by
  unfold sfpos
  have e : l = l.take i ++ l.drop i := (List.take_append_drop i l).symm
  rw [e, List.countP_append]
  have a1 : (l.take i).countP (fun e => decide (e.num < x)) = i := by
    have : (l.take i).countP (fun e => decide (e.num < x)) = (l.take i).length := by
      rw [List.countP_eq_length]
      intro y hy
      obtain ⟨j, hj⟩ := List.getElem?_of_mem hy
      rw [List.getElem?_take] at hj
      split at hj
      · simpa using h1 j y ‹_› hj
      · cases hj
    rw [this, List.length_take]; omega
  have a2 : (l.drop i).countP (fun e => decide (e.num < x)) = 0 := by
    rw [List.countP_eq_zero]
    intro y hy
    obtain ⟨j, hj⟩ := List.getElem?_of_mem hy
    rw [List.getElem?_drop] at hj
    have := h2 (i + j) y (by omega) hj
    simp; omega
  rw [a1, a2, Nat.add_zero]
theorem SSrt.lt {l : List Sd} (h : SSrt l) {i j : Nat} {x y : Sd} (hij : i < j) (hx : l[i]? = some x) (hy : l[j]? = some y) : x.num < y.num := by
  obtain ⟨h1, e1⟩ := List.getElem?_eq_some_iff.1 hx
  obtain ⟨h2, e2⟩ := List.getElem?_eq_some_iff.1 hy
  have := List.pairwise_iff_getElem.1 h i j h1 h2 hij
  rw [e1, e2] at this
  exact this
theorem SSrt.before {l : List Sd} (h : SSrt l) {x j : Nat} {e : Sd} (hj : j < sfpos l x) (he : l[j]? = some e) : e.num < x := by
  rcases Nat.lt_or_ge e.num x with h1 | h1
  · exact h1
  · exfalso
    -- all from j on are not below x
    have hl := (List.getElem?_eq_some_iff.1 he).1
    have e2 : l = l.take j ++ l.drop j := (List.take_append_drop j l).symm
    have a2 : (l.drop j).countP (fun e => decide (e.num < x)) = 0 := by
      rw [List.countP_eq_zero]
      intro y hy
      obtain ⟨i, hi⟩ := List.getElem?_of_mem hy
      rw [List.getElem?_drop] at hi
      rcases Nat.eq_zero_or_pos i with h0 | h0
      · subst h0
        rw [Nat.add_zero, he] at hi
        cases hi
        simp; omega
      · have := h.lt (by omega : j < j + i) he hi
        simp; omega
    have a1 : (l.take j).countP (fun e => decide (e.num < x)) ≤ j := by
      have := List.countP_le_length (p := fun e => decide (Sd.num e < x)) (l := l.take j)
      rw [List.length_take] at this; omega
    have : sfpos l x ≤ j := by
      unfold sfpos
      rw [e2, List.countP_append, a2]; omega
    omega
theorem SSrt.after {l : List Sd} (h : SSrt l) {x j : Nat} {e : Sd} (hj : sfpos l x ≤ j) (he : l[j]? = some e) : x ≤ e.num := by
  rcases Nat.lt_or_ge e.num x with h1 | h1
  · exfalso
    have hl := (List.getElem?_eq_some_iff.1 he).1
    have e2 : l = l.take (j + 1) ++ l.drop (j + 1) := (List.take_append_drop (j + 1) l).symm
    have a1 : (l.take (j + 1)).countP (fun e => decide (e.num < x)) = j + 1 := by
      have : (l.take (j + 1)).countP (fun e => decide (e.num < x)) = (l.take (j + 1)).length := by
        rw [List.countP_eq_length]
        intro y hy
        obtain ⟨i, hi⟩ := List.getElem?_of_mem hy
        rw [List.getElem?_take] at hi
        split at hi
        · rcases Nat.lt_or_ge i j with h0 | h0
          · have := h.lt h0 hi he
            simp; omega
          · obtain rfl : i = j := by omega
            rw [he] at hi
            cases hi
            simpa using h1
        · cases hi
      rw [this, List.length_take]; omega
    have : j + 1 ≤ sfpos l x := by
      unfold sfpos
      rw [e2, List.countP_append, a1]; omega
    omega
  · exact h1
theorem sfhas_true {l : List Sd} {x : Nat} (h : sfhas l x = true) : ∃ e, l[sfpos l x]? = some e ∧ e.num = x := by
  unfold sfhas at h
  cases he : l[sfpos l x]? with
  | none => rw [he] at h; cases h
  | some e => rw [he] at h; exact ⟨e, rfl, by simpa using h⟩
theorem SSrt.found {l : List Sd} (h : SSrt l) {x j : Nat} {e : Sd} (he : l[j]? = some e) (hx : e.num = x) : sfpos l x = j ∧ sfhas l x = true := by
  have hp : sfpos l x = j := by
    apply sfpos_of
    · have := (List.getElem?_eq_some_iff.1 he).1; omega
    · intro i y hi hy
      have := h.lt hi hy he; omega
    · intro i y hi hy
      rcases Nat.lt_or_ge j i with h0 | h0
      · have := h.lt h0 he hy; omega
      · obtain rfl : i = j := by omega
        rw [he] at hy; cases hy; omega
  refine ⟨hp, ?_⟩
  unfold sfhas
  rw [hp, he]
  simpa using hx
theorem SSrt.none {l : List Sd} {x : Nat} (hx : ∀ e ∈ l, e.num ≠ x) : sfhas l x = false := by
  cases hb : sfhas l x with
  | false => rfl
  | true =>
    obtain ⟨e, he, hn⟩ := sfhas_true hb
    exact absurd hn (hx e (List.mem_of_getElem? he))
/-- An entry is laid in its place. -/
def sins (l : List Sd) (e : Sd) : List Sd := l.take (sfpos l e.num) ++ e :: l.drop (sfpos l e.num)
theorem sins_len (l : List Sd) (e : Sd) : (sins l e).length = l.length + 1 := by
  have := sfpos_le l e.num
  unfold sins
  simp; omega
theorem SSrt.insd {l : List Sd} (h : SSrt l) {e : Sd} (hn : sfhas l e.num = false) : SSrt (sins l e) := by
  unfold sins SSrt
  rw [List.pairwise_append, List.pairwise_cons]
  have hne : ∀ y, l[sfpos l e.num]? = some y → y.num ≠ e.num := fun y hy heq => by
    unfold sfhas at hn
    rw [hy] at hn
    simp at hn
    exact hn heq
  have hgt : ∀ y ∈ l.drop (sfpos l e.num), e.num < y.num := by
    intro y hy
    obtain ⟨i, hi⟩ := List.getElem?_of_mem hy
    rw [List.getElem?_drop] at hi
    have h1 := h.after (Nat.le_add_right _ i) hi
    rcases Nat.eq_zero_or_pos i with h0 | h0
    · subst h0
      rw [Nat.add_zero] at hi
      have := hne y hi; omega
    · have hp : sfpos l e.num < l.length := by have := (List.getElem?_eq_some_iff.1 hi).1; omega
      have h2 := h.lt (by omega : sfpos l e.num < sfpos l e.num + i) (List.getElem?_eq_getElem hp) hi
      have h3 := h.after (Nat.le_refl _) (List.getElem?_eq_getElem hp)
      omega
  have hlt : ∀ y ∈ l.take (sfpos l e.num), y.num < e.num := by
    intro y hy
    obtain ⟨i, hi⟩ := List.getElem?_of_mem hy
    rw [List.getElem?_take] at hi
    split at hi
    · exact h.before ‹_› hi
    · cases hi
  refine ⟨List.Pairwise.sublist (List.take_sublist _ _) h, ⟨hgt, List.Pairwise.sublist (List.drop_sublist _ _) h⟩, ?_⟩
  intro y hy z hz
  have h1 := hlt y hy
  rcases List.mem_cons.1 hz with rfl | hz
  · exact h1
  · have := hgt z hz; omega
theorem SSrt.set {l : List Sd} (h : SSrt l) {i : Nat} {x y : Sd} (hx : l[i]? = some x) (hy : y.num = x.num) : SSrt (l.set i y) := by
  unfold SSrt
  rw [List.pairwise_iff_getElem]
  intro a b ha hb hab
  rw [List.length_set] at ha hb
  have e : ∀ c (hc : c < l.length), ((l.set i y)[c]'(by rw [List.length_set]; exact hc)).num = (l[c]).num := fun c hc => by
    rw [List.getElem_set]
    split
    · rename_i hic
      subst hic
      rw [hy]
      rw [List.getElem?_eq_getElem hc] at hx
      cases hx; rfl
    · rfl
  rw [e a ha, e b hb]
  exact List.pairwise_iff_getElem.1 h a b ha hb hab
/-- The clock. -/
def padv (now t : Int) : Int := if now < t ∧ t ≤ 1099511627776 then t else now
theorem padv_ge (now t : Int) : now ≤ padv now t := by unfold padv; split <;> omega
theorem padv_le {now t : Int} (h : now ≤ 1099511627776) : padv now t ≤ 1099511627776 := by unfold padv; split <;> omega
def permB (secs : Int) : Bool := decide (1 ≤ secs) && decide (secs ≤ 1000000000)
def Sd.liveB (now : Int) (e : Sd) : Bool := decide (now < e.u)
def Sd.heldB (m : Mc6) (now : Int) (e : Sd) : Bool := e.liveB now && e.m.eqB m
def Sd.freeB (now : Int) (e : Sd) : Bool := !e.fx && (!e.liveB now && decide (e.br ≤ now))
def Sd.rank (m : Mc6) (e : Sd) : Int := if e.le = true then (if e.m.eqB m = true then -2 else e.u) else -1
def Sd.overB (now : Int) (e : Sd) : Bool := e.le && (!e.rp && !e.liveB now)
/-- The slot of the live lease of m. -/
def hldF (m : Mc6) (now : Int) (l : List Sd) : Option Nat := l.findIdx? (fun e => e.heldB m now)
theorem hldF_none {m : Mc6} {now : Int} {l : List Sd} (h : ∀ (q : Nat) (e : Sd), l[q]? = some e → e.heldB m now = false) : hldF m now l = none := by
  unfold hldF
  rw [List.findIdx?_eq_none_iff]
  intro e he
  obtain ⟨q, hq⟩ := List.getElem?_of_mem he
  exact h q e hq
theorem hldF_some {m : Mc6} {now : Int} {l : List Sd} {i : Nat} {x : Sd} (hx : l[i]? = some x) (hb : x.heldB m now = true) (h : ∀ (q : Nat) (e : Sd), q < i → l[q]? = some e → e.heldB m now = false) : hldF m now l = some i := by
  unfold hldF
  obtain ⟨hi, e1⟩ := List.getElem?_eq_some_iff.1 hx
  rw [List.findIdx?_eq_some_iff_getElem]
  refine ⟨hi, by rw [e1]; exact hb, fun j hj => ?_⟩
  have := h j l[j] hj (List.getElem?_eq_getElem _)
  simp [this]
theorem hldF_at {m : Mc6} {now : Int} {l : List Sd} {i : Nat} (h : hldF m now l = some i) : ∃ x, l[i]? = some x ∧ x.heldB m now = true := by
  unfold hldF at h
  rw [List.findIdx?_eq_some_iff_getElem] at h
  obtain ⟨hi, h1, _⟩ := h
  exact ⟨_, List.getElem?_eq_getElem hi, h1⟩
theorem hldF_no {m : Mc6} {now : Int} {l : List Sd} (h : hldF m now l = none) : ∀ (q : Nat) (e : Sd), l[q]? = some e → e.heldB m now = false := by
  unfold hldF at h
  rw [List.findIdx?_eq_none_iff] at h
  intro q e he
  exact h e (List.mem_of_getElem? he)
/-- Is one better for m than the best so far (and free)? -/
def betB (m : Mc6) (now : Int) (l : List Sd) (a : Option Nat) (e : Sd) : Bool := e.freeB now && (match a with
  | none => true
  | some i => match l[i]? with
    | none => false
    | some x => decide (e.rank m < x.rank m))
/-- The best free slot for m of the first j. -/
def bestF (m : Mc6) (now : Int) (l : List Sd) : Nat → Option Nat
  | 0 => none
  | j + 1 => match l[j]? with
    | none => bestF m now l j
    | some e => if betB m now l (bestF m now l j) e = true then some j else bestF m now l j
theorem bestF_lt (m : Mc6) (now : Int) (l : List Sd) : ∀ j i, j ≤ l.length → bestF m now l j = some i → i < j := by
  intro j
  induction j with
  | zero => intro i _ h; cases h
  | succ j ih =>
    intro i hj h
    unfold bestF at h
    rw [List.getElem?_eq_getElem (by omega)] at h
    simp only at h
    by_cases hb : betB m now l (bestF m now l j) l[j] = true
    · rw [if_pos hb] at h
      cases h; omega
    · rw [if_neg hb] at h
      have := ih i (by omega) h; omega
theorem bestF_free (m : Mc6) (now : Int) (l : List Sd) : ∀ j i, j ≤ l.length → bestF m now l j = some i → ∃ x, l[i]? = some x ∧ x.freeB now = true := by
  intro j
  induction j with
  | zero => intro i _ h; cases h
  | succ j ih =>
    intro i hj h
    unfold bestF at h
    rw [List.getElem?_eq_getElem (by omega)] at h
    simp only at h
    by_cases hb : betB m now l (bestF m now l j) l[j] = true
    · rw [if_pos hb] at h
      cases h
      refine ⟨_, List.getElem?_eq_getElem (by omega), ?_⟩
      unfold betB at hb
      simp only [Bool.and_eq_true] at hb
      exact hb.1
    · rw [if_neg hb] at h
      exact ih i (by omega) h
/-- What a pool holds: its clock, the fixed addresses, the slots. -/
structure St where
  now : Int
  hs : List (Mc6 × Ad4)
  l : List Sd
def homeF (hs : List (Mc6 × Ad4)) (m : Mc6) : Option Ad4 := (hs.find? (fun p => p.1.eqB m)).map (·.2)
/-- Why m may not have a. -/
def mayE (s : St) (m : Mc6) (a : Ad4) : Int := match homeF s.hs m with
  | some h => if a.eqB h = true then 0 else 8
  | none => if sfhas s.l a.num = true then (match s.l[sfpos s.l a.num]? with
    | none => 6
    | some x => if x.fx = true then 6 else if (!x.freeB s.now && !x.heldB m s.now) = true then 8 else 0) else 6
def endL (m : Mc6) (now : Int) (l : List Sd) : List Sd := match hldF m now l with
  | some i => l.modify i (fun x => { x with u := 0 })
  | none => l
def slPut (l : List Sd) (m : Mc6) (a : Ad4) (u : Int) : List Sd := l.modify (sfpos l a.num) (fun x => ⟨m, a, u, x.fx, true, false, x.br⟩)
def St.adv (s : St) (t : Int) : St := { s with now := padv s.now t }
def takeS (s : St) (m : Mc6) (a : Ad4) (t secs : Int) : Int × St :=
  if permB secs = true then (if (mayE (s.adv t) m a == 0) = true then (0, { s.adv t with l := slPut (endL m (s.adv t).now s.l) m a ((s.adv t).now + secs) }) else (mayE (s.adv t) m a, s.adv t)) else (1, s.adv t)
def offerS (s : St) (m : Mc6) (w : Ad4) (t : Int) : Ad4 × Int := match homeF s.hs m with
  | some h => (h, 0)
  | none => match hldF m (s.adv t).now s.l with
    | some i => (((s.l[i]?).map (·.ad)).getD Ad4.zero, 0)
    | none => if (sfhas s.l w.num && (match s.l[sfpos s.l w.num]? with
        | none => false
        | some x => x.freeB (s.adv t).now)) = true then (w, 0)
      else match bestF m (s.adv t).now s.l s.l.length with
        | none => (Ad4.zero, 7)
        | some i => (((s.l[i]?).map (·.ad)).getD Ad4.zero, 0)
def barB (s : St) (a : Ad4) (secs : Int) : Bool := sfhas s.l a.num && ((match s.l[sfpos s.l a.num]? with
  | none => false
  | some x => !x.fx) && permB secs)
def barS (s : St) (a : Ad4) (t secs : Int) : St := if barB s a secs = true then { s.adv t with l := s.l.modify (sfpos s.l a.num) (fun x => { x with u := 0, br := (s.adv t).now + secs }) } else s.adv t
def tickO (now : Int) (l : List Sd) : List Le := (l.filter (fun e => e.overB now)).map (·.lease)
def tickL (now : Int) (l : List Sd) : List Sd := l.map (fun e => if e.overB now = true then { e with rp := true } else e)
def allO (now : Int) (l : List Sd) : List Le := (l.filter (fun e => e.liveB now)).map (·.lease)
def ofS (s : St) (m : Mc6) (t : Int) : Ad4 × Bool := match hldF m (s.adv t).now s.l with
  | some i => (((s.l[i]?).map (·.ad)).getD Ad4.zero, true)
  | none => (Ad4.zero, false)
/-- A pool in order. -/
structure St.ok (s : St) : Prop where
  srt : SSrt s.l
  n0 : 0 ≤ s.now
  n1 : s.now ≤ 1099511627776
  len : s.l.length ≤ 1000
  hom : ∀ p ∈ s.hs, sfhas s.l p.2.num = true
theorem St.ok.adv {s : St} (h : s.ok) (t : Int) : (s.adv t).ok := ⟨h.srt, by have := padv_ge s.now t; have := h.n0; show 0 ≤ padv s.now t; omega, padv_le h.n1, h.len, h.hom⟩
/-- Slots whose addresses are as they were. -/
theorem ssrt_map {l l' : List Sd} (h : l'.map Sd.num = l.map Sd.num) (hs : SSrt l) : SSrt l' := by
  unfold SSrt at *
  rw [← List.pairwise_map (f := Sd.num) (R := fun a b => a < b)] at *
  rw [h]; exact hs
theorem sfpos_map {l l' : List Sd} (h : l'.map Sd.num = l.map Sd.num) (x : Nat) : sfpos l' x = sfpos l x := by
  have e : ∀ q : List Sd, sfpos q x = (q.map Sd.num).countP (fun n => decide (n < x)) := fun q => by rw [List.countP_map]; rfl
  rw [e, e, h]
theorem sfhas_map {l l' : List Sd} (h : l'.map Sd.num = l.map Sd.num) (x : Nat) : sfhas l' x = sfhas l x := by
  have e : ∀ q : List Sd, sfhas q x = (match (q.map Sd.num)[sfpos q x]? with
    | some n => n == x
    | none => false) := fun q => by
    unfold sfhas
    rw [List.getElem?_map]
    cases q[sfpos q x]? <;> rfl
  rw [e, e, h, sfpos_map h]
theorem map_modify {l : List Sd} {i : Nat} {f : Sd → Sd} (h : ∀ x, l[i]? = some x → (f x).num = x.num) : (l.modify i f).map Sd.num = l.map Sd.num := by
  apply List.ext_getElem?
  intro j
  rw [List.getElem?_map, List.getElem?_map, List.getElem?_modify]
  cases hj : l[j]? with
  | none => simp
  | some x =>
    by_cases e : i = j
    · subst e; simp [h x hj]
    · simp [e]
theorem map_set {l : List Sd} {i : Nat} {x y : Sd} (hx : l[i]? = some x) (h : y.num = x.num) : (l.set i y).map Sd.num = l.map Sd.num := by
  apply List.ext_getElem?
  intro j
  rw [List.getElem?_map, List.getElem?_map, List.getElem?_set]
  by_cases e : i = j
  · subst e
    have hi := (List.getElem?_eq_some_iff.1 hx).1
    rw [if_pos rfl, if_pos hi, hx]
    simp [h]
  · rw [if_neg e]
theorem modify_at {l : List Sd} {i : Nat} {x : Sd} {f : Sd → Sd} (hx : l[i]? = some x) : l.modify i f = l.set i (f x) := by
  apply List.ext_getElem?
  intro j
  rw [List.getElem?_modify, List.getElem?_set]
  have hi := (List.getElem?_eq_some_iff.1 hx).1
  by_cases e : i = j
  · subst e
    rw [if_pos rfl, if_pos hi, hx]
    simp
  · rw [if_neg e]
    simp [e]
theorem St.ok.same {s s' : St} (h : s.ok) (h1 : s'.l.map Sd.num = s.l.map Sd.num) (h2 : s'.hs = s.hs) (h3 : 0 ≤ s'.now) (h4 : s'.now ≤ 1099511627776) : s'.ok :=
  ⟨ssrt_map h1 h.srt, h3, h4, by have := congrArg List.length h1; simp at this; have := h.len; omega, fun p hp => by rw [sfhas_map h1]; exact h.hom p (h2 ▸ hp)⟩
theorem endL_map (m : Mc6) (now : Int) (l : List Sd) : (endL m now l).map Sd.num = l.map Sd.num := by
  unfold endL
  split
  · exact map_modify (fun _ _ => rfl)
  · rfl
/-- Where an address stands that is there. -/
theorem sfhas_at {l : List Sd} {a : Ad4} (h : sfhas l a.num = true) : ∃ x, l[sfpos l a.num]? = some x ∧ x.ad = a := by
  obtain ⟨x, hx, hn⟩ := sfhas_true h
  exact ⟨x, hx, Ad4.num_inj hn⟩
theorem slPut_map {l : List Sd} {m : Mc6} {a : Ad4} {u : Int} (h : sfhas l a.num = true) : (slPut l m a u).map Sd.num = l.map Sd.num := map_modify (fun x hx => by
  obtain ⟨y, hy, he⟩ := sfhas_at h
  rw [hx] at hy
  cases hy
  show a.num = x.ad.num
  rw [he])
theorem mayE_has {s : St} (h : s.ok) {m : Mc6} {a : Ad4} (he : mayE s m a = 0) : sfhas s.l a.num = true := by
  unfold mayE at he
  cases hh : homeF s.hs m with
  | some b =>
    rw [hh] at he
    simp only at he
    by_cases e : a.eqB b = true
    · obtain rfl := Ad4.eqB_iff.1 e
      unfold homeF at hh
      cases hf : s.hs.find? (fun p => p.1.eqB m) with
      | none => rw [hf] at hh; cases hh
      | some p =>
        rw [hf] at hh
        have hp := List.mem_of_find?_eq_some hf
        have : p.2 = a := by simpa using hh
        rw [← this]; exact h.hom p hp
    · rw [if_neg e] at he; cases he
  | none =>
    rw [hh] at he
    simp only at he
    by_cases e : sfhas s.l a.num = true
    · exact e
    · rw [if_neg e] at he; cases he
theorem takeS_ok {s : St} (h : s.ok) (m : Mc6) (a : Ad4) (t secs : Int) : (takeS s m a t secs).2.ok := by
  unfold takeS
  split
  · split
    · rename_i he
      have hh := mayE_has (h.adv t) (by simpa using he)
      refine (h.adv t).same ?_ rfl (h.adv t).n0 (h.adv t).n1
      show (slPut (endL m (s.adv t).now s.l) m a _).map Sd.num = s.l.map Sd.num
      rw [slPut_map (by rw [sfhas_map (endL_map _ _ _)]; exact hh), endL_map]
    · exact h.adv t
  · exact h.adv t
theorem barS_ok {s : St} (h : s.ok) (a : Ad4) (t secs : Int) : (barS s a t secs).ok := by
  unfold barS
  split
  · exact (h.adv t).same (map_modify (fun _ _ => rfl)) rfl (h.adv t).n0 (h.adv t).n1
  · exact h.adv t
theorem tickL_map (now : Int) (l : List Sd) : (tickL now l).map Sd.num = l.map Sd.num := by
  unfold tickL
  rw [List.map_map]
  apply List.map_congr_left
  intro x _
  rw [Function.comp_apply]
  by_cases h : x.overB now = true
  · simp only [h, if_true]; rfl
  · rw [if_neg h]
theorem tickS_ok {s : St} (h : s.ok) (t : Int) : ({ s.adv t with l := tickL (s.adv t).now s.l } : St).ok := (h.adv t).same (tickL_map _ _) rfl (h.adv t).n0 (h.adv t).n1
open Go.RowKit

def macV (m : Mc6) : Value := .agg #[.int .u8 (m.a.toNat : Int), .int .u8 (m.b.toNat : Int), .int .u8 (m.c.toNat : Int), .int .u8 (m.d.toNat : Int), .int .u8 (m.e.toNat : Int), .int .u8 (m.f.toNat : Int)]
def adV (x : Ad4) : Value := .agg #[.int .u8 (x.a.toNat : Int), .int .u8 (x.b.toNat : Int), .int .u8 (x.c.toNat : Int), .int .u8 (x.d.toNat : Int)]
theorem eqm_b (x y : Mc6) (W : World) : (binOp .eql 32 (macV x) (macV y)).run Try.prog W = .ok (.bool (x.eqB y)) W :=
  run_eql_bytes (P := Try.prog) W 32 5 6 (by kernel_rfl) (by kernel_rfl) (fun w => by kernel_rfl) x.l y.l rfl rfl
theorem eqa_b (x y : Ad4) (W : World) : (binOp .eql 28 (adV x) (adV y)).run Try.prog W = .ok (.bool (x.eqB y)) W :=
  run_eql_bytes (P := Try.prog) W 28 5 4 (by kernel_rfl) (by kernel_rfl) (fun w => by kernel_rfl) x.l y.l rfl rfl
theorem nea_b (x y : Ad4) (W : World) : (binOp .neq 28 (adV x) (adV y)).run Try.prog W = .ok (.bool (!x.eqB y)) W := by
  have h := run_equalIn_bytes (P := Try.prog) W 9998 28 5 4 (by kernel_rfl) (by kernel_rfl) (fun w => by kernel_rfl) x.l y.l rfl rfl
  show (binOp .neq 28 (.agg (x.l.map u8v).toArray) (.agg (y.l.map u8v).toArray)).run Try.prog W = _
  rw [run_neq_struct]
  have h2 : (Op.equalIn 10000 28 (.agg (x.l.map u8v).toArray) (.agg (y.l.map u8v).toArray)).run Try.prog W = .ok (x.l == y.l) W := h
  rw [h2]
  rfl
theorem macV_inj {x y : Mc6} (h : macV x = macV y) : x = y := by
  obtain ⟨a, b, c, d, e, f⟩ := x
  obtain ⟨a', b', c', d', e', f'⟩ := y
  simp only [macV, Value.agg.injEq, Array.mk.injEq, List.cons.injEq, Value.int.injEq, true_and, and_true] at h
  obtain ⟨h1, h2, h3, h4, h5, h6⟩ := h
  have e1 : ∀ p q : UInt8, (p.toNat : Int) = q.toNat → p = q := fun p q h => UInt8.toNat_inj.1 (by omega)
  rw [e1 _ _ h1, e1 _ _ h2, e1 _ _ h3, e1 _ _ h4, e1 _ _ h5, e1 _ _ h6]
theorem lawM : WideMaps.KeyLaw Try.prog 32 := deep_law_laid (by kernel_rfl) (m := 2) (by omega) (of_decide_eq_true (by kernel_rfl)) (by kernel_rfl) (by kernel_rfl)
theorem key_mac (m : Mc6) : ∃ l, keyOf Try.prog 32 (macV m) = some l := by
  have hu : Try.prog.underlying 32 = some (.array 6 5) := by kernel_rfl
  have h8 : Try.prog.underlying 5 = some (.int .u8) := by kernel_rfl
  have hk : Try.prog.keyType 32 = true := by kernel_rfl
  have c6 : Try.prog.cellsOf 32 = 6 := by kernel_rfl
  have c1 : Try.prog.cellsOf 5 = 1 := by kernel_rfl
  obtain ⟨d, hd⟩ : ∃ d, Try.prog.types.size = d + 1 := ⟨Try.prog.types.size - 1, by have : 0 < Try.prog.types.size := of_decide_eq_true (by kernel_rfl); omega⟩
  have one : ∀ (a : UInt8), Try.prog.keyLits (d + 1) 5 [.int .u8 (a.toNat : Int)] = some [.int .u8 (a.toNat : Int)] := fun a => by
    have hw : (Lit.int .u8 (a.toNat : Int)).wf = true := by
      have := a.toNat_lt
      simp [Lit.wf, IntKind.min, IntKind.max, IntKind.signed, IntKind.bits]; omega
    unfold Program.keyLits
    simp only [h8]
    rw [if_pos ⟨trivial, hw⟩]
  obtain ⟨a, b, c, e, f, g⟩ := m
  rw [← Option.isSome_iff_exists]
  unfold keyOf
  simp only [hu, hk, Bool.true_and]
  have hf : (macV ⟨a, b, c, e, f, g⟩).formed Try.prog 32 = true := by simp [Value.formed, macV, hu, c6]
  rw [if_pos hf, hd]
  unfold Program.keyLits
  simp only [hu, c6, c1]
  rw [if_pos (show (macV ⟨a, b, c, e, f, g⟩).cells.toList.length = 6 from rfl)]
  simp only [macV, Value.cells, List.range_succ, List.range_zero, List.nil_append, List.cons_append, List.mapM_cons, List.mapM_nil, List.drop_zero, Nat.mul_one, List.drop_succ_cons, List.take_succ_cons, List.take_zero, one, Option.pure_def, Option.bind_eq_bind, Option.bind_some, Option.map_some, Option.isSome_some]

/-- The map at block mb: who has which address. -/
def Hm (lo mb : Nat) (w : World) (hs : List (Mc6 × Ad4)) : Prop := ∃ (es : Array MapEntry) (ck : Nat), w.heap[mb]? = some (.map es ck) ∧ lo ≤ mb ∧ es.toList.map (fun e => (e.key, e.val)) = hs.map (fun p => (macV p.1, adV p.2)) ∧ (hs.map (·.1)).Nodup
theorem Hm.of {lo mb : Nat} {w w' : World} {hs : List (Mc6 × Ad4)} (h : Hm lo mb w hs) (e : ∀ o, w.heap[mb]? = some o → w'.heap[mb]? = some o) : Hm lo mb w' hs := by
  obtain ⟨es, ck, h1, h2⟩ := h
  exact ⟨es, ck, e _ h1, h2⟩
theorem Hm.lt {lo mb : Nat} {w : World} {hs : List (Mc6 × Ad4)} (h : Hm lo mb w hs) : mb < w.heap.size := by
  obtain ⟨es, ck, h1, _⟩ := h
  exact hlt h1
theorem Hm.below {lo mb : Nat} {w w' : World} {hs : List (Mc6 × Ad4)} (h : Hm lo mb w hs) (b : Below w.heap.size w w') : Hm lo mb w' hs := h.of fun _ ho => blk_u ho b
/-- A block of cells is no map. -/
theorem Hm.ne {lo mb q : Nat} {w : World} {hs : List (Mc6 × Ad4)} {c : Array Value} {T : TypeId} {fz : Nat × Nat} (h : Hm lo mb w hs) (hq : w.heap[q]? = some (.cells c T fz)) : mb ≠ q := fun e => by
  obtain ⟨es, ck, h1, _⟩ := h
  subst e
  rw [h1] at hq; cases hq
theorem Hm.grown {lo mb q : Nat} {w w' : World} {hs : List (Mc6 × Ad4)} {c : Array Value} {T : TypeId} {fz : Nat × Nat} (h : Hm lo mb w hs) (g : w.grownBy w' (some q)) (hq : w.heap[q]? = some (.cells c T fz)) : Hm lo mb w' hs := by
  have hne := h.ne hq
  have hl := h.lt
  exact h.of fun _ ho => (g.block mb hl (fun e => hne (by injection e))).trans ho
theorem Hm.lo_le {lo lo' mb : Nat} {w : World} {hs : List (Mc6 × Ad4)} (h : Hm lo mb w hs) (hl : lo' ≤ lo) : Hm lo' mb w hs := by
  obtain ⟨es, ck, h1, h2, h3⟩ := h
  exact ⟨es, ck, h1, Nat.le_trans hl h2, h3⟩
theorem Hm.row {lo mb B k n : Nat} {w w' : World} {hs : List (Mc6 × Ad4)} {T : TypeId} {v : Value} {xs : List Value} (h : Hm lo mb w hs) (g : w.grownBy w' v.ownBlock) (ho : w.ownsRow B T k v n xs) : Hm lo mb w' hs := by
  have hl := h.lt
  refine h.of fun o ho' => (g.block mb hl (fun e => ?_)).trans ho'
  rcases ho.2 with ⟨h2, _⟩ | ⟨g', cap, cur, e2, hb, hh, h2⟩
  · rw [h2] at e; simp [Value.ownBlock] at e
  · rw [e2] at e
    simp only [Value.ownBlock, Option.some.injEq] at e
    exact h.ne hh e
theorem homeF_none {hs : List (Mc6 × Ad4)} {m : Mc6} (h : ∀ p ∈ hs, p.1 ≠ m) : homeF hs m = none := by
  unfold homeF
  rw [List.find?_eq_none.2 fun p hp => by rw [Mc6.eqB_no (h p hp)]; decide]
  rfl
theorem homeF_some {hs : List (Mc6 × Ad4)} {p : Mc6 × Ad4} (hp : p ∈ hs) (hn : (hs.map (·.1)).Nodup) : homeF hs p.1 = some p.2 := by
  unfold homeF
  induction hs with
  | nil => cases hp
  | cons q hs ih =>
    rw [List.map_cons, List.nodup_cons] at hn
    rcases List.mem_cons.1 hp with rfl | hp'
    · rw [List.find?_cons_of_pos (by exact Mc6.eqB_self _)]; rfl
    · have hne : q.1 ≠ p.1 := fun e => hn.1 (e ▸ List.mem_map.2 ⟨p, hp', rfl⟩)
      rw [List.find?_cons_of_neg (by rw [Mc6.eqB_no hne]; decide)]
      exact ih hp' hn.2
/-- A look-up. -/
theorem Hm.look {lo mb : Nat} {w : World} {hs : List (Mc6 × Ad4)} (h : Hm lo mb w hs) (m : Mc6) : (Instr.lookup 81 (.map (some mb)) (macV m) true).run Try.prog w = .ok (.tuple #[adV ((homeF hs m).getD Ad4.zero), .bool (homeF hs m).isSome]) w := by
  obtain ⟨es, ck, hb, _, he, hn⟩ := h
  obtain ⟨kl, hkl⟩ := key_mac m
  have ht : Try.prog.underlying 81 = some (.map 32 28) := by kernel_rfl
  have hz : ∀ W, (zeroValue 28).run Try.prog W = .ok (adV Ad4.zero) W := fun W => by kernel_rfl
  have hk : ∀ e ∈ es.toList, ∃ p ∈ hs, e.key = macV p.1 ∧ e.val = adV p.2 := fun e hx => by
    have : (e.key, e.val) ∈ hs.map (fun p => (macV p.1, adV p.2)) := he ▸ List.mem_map.2 ⟨e, hx, rfl⟩
    obtain ⟨p, hp, hq⟩ := List.mem_map.1 this
    injection hq with h1 h2
    exact ⟨p, hp, h1.symm, h2.symm⟩
  rcases lawM.find w hkl es.toList (fun e hx => by obtain ⟨p, _, h1, _⟩ := hk e hx; rw [h1]; exact key_mac p.1) with ⟨h1, h2⟩ | ⟨j, e0, h1, h2, h3⟩
  · have hm : homeF hs m = none := homeF_none fun p hp hpm => by
      have : (macV p.1, adV p.2) ∈ es.toList.map (fun e => (e.key, e.val)) := he ▸ List.mem_map.2 ⟨p, hp, rfl⟩
      obtain ⟨e, hx, hq⟩ := List.mem_map.1 this
      injection hq with q1 q2
      exact h2 e hx (by rw [q1, hpm])
    rw [hm]
    simp [Instr.lookup, run_underlying ht, MapKept.run_getObj_map hb, lawM.check w _ hkl, h1, hz, Result.andThen]
  · obtain ⟨p, hp, q1, q2⟩ := hk e0 (List.mem_of_getElem? h2)
    have hpm : p.1 = m := macV_inj (by rw [← q1, h3])
    have hm : homeF hs m = some p.2 := hpm ▸ homeF_some hp hn
    rw [hm]
    simp [Instr.lookup, run_underlying ht, MapKept.run_getObj_map hb, lawM.check w _ hkl, h1, q2, Result.andThen]
/-- A new one is laid in. -/
theorem Hm.put {lo mb : Nat} {w : World} {hs : List (Mc6 × Ad4)} (h : Hm lo mb w hs) (m : Mc6) (a : Ad4) (hm : ∀ p ∈ hs, p.1 ≠ m) : ∃ w', (Instr.mapUpdate 81 (.map (some mb)) (macV m) (adV a)).run Try.prog w = .ok () w' ∧ Hm lo mb w' (hs ++ [(m, a)]) ∧ w.grownBy w' (some mb) := by
  obtain ⟨es, ck, hb, hlo, he, hn⟩ := h
  obtain ⟨kl, hkl⟩ := key_mac m
  have ht : Try.prog.underlying 81 = some (.map 32 28) := by kernel_rfl
  have hk : ∀ e ∈ es.toList, ∃ p ∈ hs, e.key = macV p.1 ∧ e.val = adV p.2 := fun e hx => by
    have : (e.key, e.val) ∈ hs.map (fun p => (macV p.1, adV p.2)) := he ▸ List.mem_map.2 ⟨e, hx, rfl⟩
    obtain ⟨p, hp, hq⟩ := List.mem_map.1 this
    injection hq with h1 h2
    exact ⟨p, hp, h1.symm, h2.symm⟩
  rcases lawM.find w hkl es.toList (fun e hx => by obtain ⟨p, _, h1, _⟩ := hk e hx; rw [h1]; exact key_mac p.1) with ⟨h1, h2⟩ | ⟨j, e0, h1, h2, h3⟩
  · refine ⟨ChangeMaps.setBlock w mb (.map (es.push ⟨macV m, adV a, ck⟩) (ck + 1)), ?_, ⟨_, _, ChangeMaps.heap_setBlock_same hb _, hlo, ?_, ?_⟩, ⟨rfl, rfl, rfl, by simp [ChangeMaps.setBlock], fun i _ hi => ChangeMaps.heap_setBlock_other hb _ (fun e => hi (by rw [e]))⟩⟩
    · simp [Instr.mapUpdate, run_underlying ht, MapKept.run_getObj_map hb, lawM.check w false hkl, h1, MapKept.run_setObj_map _ hb, Result.andThen, ChangeMaps.setBlock]
    · rw [Array.toList_push, List.map_append, he]; simp
    · rw [List.map_append, List.nodup_append]
      refine ⟨hn, by simp, fun x hx y hy => ?_⟩
      obtain ⟨p, hp, rfl⟩ := List.mem_map.1 hx
      simp at hy
      rw [hy]; exact hm p hp
  · obtain ⟨p, hp, q1, q2⟩ := hk e0 (List.mem_of_getElem? h2)
    exact absurd (macV_inj (by rw [← q1, h3])) (hm p hp)
theorem Hm.made (w : World) : Hm w.heap.size w.heap.size (w.alloc (.map #[] 0)) [] := ⟨#[], 0, (MapKept.heap_alloc w _).1, Nat.le_refl _, rfl, by simp⟩
theorem Hm.len {lo mb : Nat} {w : World} {hs : List (Mc6 × Ad4)} (h : Hm lo mb w hs) (ty : TypeId) : (Builtin.len_ #[81] ty #[.map (some mb)]).run Try.prog w = .ok (.int .i64 (hs.length : Int)) w := by
  obtain ⟨es, ck, hb, _, he, _⟩ := h
  have ht : Try.prog.underlying 81 = some (.map 32 28) := by kernel_rfl
  have hl : es.size = hs.length := by have := congrArg List.length he; simpa using this
  simp [Builtin.len_, run_underlying ht, MapKept.run_getObj_map hb, Result.andThen, goInt, hl]
open Go.RowKit

theorem ret_k {k : IntKind} {a b : Int} (h : a = b) : Ending.returned (.int k a) = .returned (.int k b) := by rw [h]
theorem idx4 (x0 x1 x2 x3 : Value) (W : World) : (Instr.index 28 (.agg #[x0, x1, x2, x3]) (.int .i64 0)).run Try.prog W = .ok x0 W ∧ (Instr.index 28 (.agg #[x0, x1, x2, x3]) (.int .i64 1)).run Try.prog W = .ok x1 W ∧
    (Instr.index 28 (.agg #[x0, x1, x2, x3]) (.int .i64 2)).run Try.prog W = .ok x2 W ∧ (Instr.index 28 (.agg #[x0, x1, x2, x3]) (.int .i64 3)).run Try.prog W = .ok x3 W := by
  simp [Instr.index, run_underlying Try.underlying28, asIntOf, go_sem]

set_option maxRecDepth 100000 in
set_option maxHeartbeats 1000000 in
theorem anum_any (a b c d : UInt8) (w : World) : Calls Try.prog 36 #[.agg #[.int .u8 (a.toNat : Int), .int .u8 (b.toNat : Int), .int .u8 (c.toNat : Int), .int .u8 (d.toNat : Int)]] w fun e w' => e = .returned (.int .u32 (be [a, b, c, d])) ∧ Below w.heap.size w w' := by
  have bel := (Below.refl w.heap.size w).alloc (Nat.le_refl _) (.cells #[.int .u8 (a.toNat : Int), .int .u8 (b.toNat : Int), .int .u8 (c.toNat : Int), .int .u8 (d.toNat : Int)] 28)
  have i0 := fun W => (idx4 (.int .u8 (a.toNat : Int)) (.int .u8 (b.toNat : Int)) (.int .u8 (c.toNat : Int)) (.int .u8 (d.toNat : Int)) W).1
  have i1 := fun W => (idx4 (.int .u8 (a.toNat : Int)) (.int .u8 (b.toNat : Int)) (.int .u8 (c.toNat : Int)) (.int .u8 (d.toNat : Int)) W).2.1
  have i2 := fun W => (idx4 (.int .u8 (a.toNat : Int)) (.int .u8 (b.toNat : Int)) (.int .u8 (c.toNat : Int)) (.int .u8 (d.toNat : Int)) W).2.2.1
  have i3 := fun W => (idx4 (.int .u8 (a.toNat : Int)) (.int .u8 (b.toNat : Int)) (.int .u8 (c.toNat : Int)) (.int .u8 (d.toNat : Int)) W).2.2.2
  have ha := a.toNat_lt; have hb := b.toNat_lt; have hc := c.toNat_lt; have hd := d.toNat_lt
  have h1 := or_u32 0 a.toNat (by omega) (by omega)
  have h1' : bits .or .u32 0 (a.toNat : Int) = a.toNat := by simpa using h1
  obtain ⟨n2, e2⟩ : ∃ n, n = a.toNat * 256 + b.toNat := ⟨_, rfl⟩
  have h2 : bits .or .u32 ((a.toNat : Int) * 256) (b.toNat : Int) = (n2 : Int) := by rw [e2]; exact or_u32 a.toNat b.toNat (by omega) (by omega)
  have g2 : n2 < 65536 := by omega
  obtain ⟨n3, e3⟩ : ∃ n, n = n2 * 256 + c.toNat := ⟨_, rfl⟩
  have h3 : bits .or .u32 ((n2 : Int) * 256) (c.toNat : Int) = (n3 : Int) := by rw [e3]; exact or_u32 n2 c.toNat (by omega) (by omega)
  have g3 : n3 < 16777216 := by omega
  obtain ⟨n4, e4⟩ : ∃ n, n = n3 * 256 + d.toNat := ⟨_, rfl⟩
  have h4 : bits .or .u32 ((n3 : Int) * 256) (d.toNat : Int) = (n4 : Int) := by rw [e4]; exact or_u32 n3 d.toNat (by omega) (by omega)
  have e : Hid (n4 = be [a, b, c, d]) := Lib.hid (by simp [be, e4, e3, e2])
  clear e2 e3 e4
  have x0 : (0 : Int) ≤ a.toNat := by omega
  have x1 : (a.toNat : Int) < 256 := by omega
  have x2 : (0 : Int) ≤ b.toNat := by omega
  have x3 : (b.toNat : Int) < 256 := by omega
  have x4 : (0 : Int) ≤ c.toNat := by omega
  have x5 : (c.toNat : Int) < 256 := by omega
  have x6 : (0 : Int) ≤ d.toNat := by omega
  have x7 : (d.toNat : Int) < 256 := by omega
  have y0 : (0 : Int) ≤ n2 := by omega
  have y1 : (n2 : Int) < 65536 := by omega
  have y2 : (0 : Int) ≤ n3 := by omega
  have y3 : (n3 : Int) < 16777216 := by omega
  clear h1 ha hb hc hd g2 g3
  go_enter Try.func36, Try.ntmps36
  go_wp2
  refine wp_loop_rounds 5 ?_
  rw [rounds_succ]
  go_wp2_with fail
  rw [rounds_succ]
  go_wp2_with fail
  rw [rounds_succ]
  go_wp2_with fail
  rw [rounds_succ]
  go_wp2_with fail
  rw [rounds_succ]
  go_wp2
  go_ret
  exact ⟨ret_k (congrArg _ e.out), bel⟩

theorem aof4_any (n : Nat) (w : World) (hn : n < 4294967296) : Calls Try.prog 39 #[.int .u32 (n : Int)] w fun e w' => e = .returned (.agg #[.int .u8 ((n : Int) / 16777216), .int .u8 ((n : Int) / 65536 % 256), .int .u8 ((n : Int) / 256 % 256), .int .u8 ((n : Int) % 256)]) ∧ Below w.heap.size w w' := by
  have n0 : (0 : Int) ≤ n := by omega
  have n1 : (n : Int) < 4294967296 := by omega
  go_enter Try.func39, Try.ntmps39
  go_wp2
  exact bodyPost_ret (v := .agg #[.int .u8 ((n : Int) / 16777216), .int .u8 ((n : Int) / 65536 % 256), .int .u8 ((n : Int) / 256 % 256), .int .u8 ((n : Int) % 256)]) (by simp [results, Try.results39, go_sem]) rfl ⟨rfl, (Below.refl _ _).alloc (Nat.le_refl _) _⟩
theorem num_any (x : Ad4) (w : World) : Calls Try.prog 36 #[.agg #[.int .u8 (x.a.toNat : Int), .int .u8 (x.b.toNat : Int), .int .u8 (x.c.toNat : Int), .int .u8 (x.d.toNat : Int)]] w fun e w' => e = .returned (.int .u32 (x.num : Int)) ∧ Below w.heap.size w w' := anum_any _ _ _ _ w
theorem ret_b {a b : Bool} (h : a = b) : Ending.returned (.bool a) = .returned (.bool b) := by rw [h]
set_option linter.unusedVariables false in
set_option linter.unusedSimpArgs false in
set_option maxRecDepth 100000 in
set_option maxHeartbeats 16000000 in
theorem nan_any (x : Nat) (w : World) : Calls Try.prog 92 #[.int .u32 (x : Int)] w fun e w' => e = .returned (.bool false) ∧ w = w' := by
  have hne : ((x : Int) != (x : Int)) = false := by simp
  go_enter Try.func92, Try.ntmps92
  go_wp2_with fail
  go_ret
  exact ⟨rfl, rfl⟩
set_option linter.unusedVariables false in
set_option linter.unusedSimpArgs false in
set_option maxRecDepth 100000 in
set_option maxHeartbeats 16000000 in
theorem cmp_lt (x y : Nat) (w : World) (h : x < y) : Calls Try.prog 75 #[.int .u32 (x : Int), .int .u32 (y : Int)] w fun e w' => e = .returned (.int .i64 (-1)) ∧ w = w' := by
  skip
  go_enter Try.func75, Try.ntmps75
  go_wp2_with fail
  with_reducible refine (nan_any _ _).mono ?_
  rintro e _ ⟨rfl, rfl⟩
  go_wp2_with fail
  with_reducible refine (nan_any _ _).mono ?_
  rintro e _ ⟨rfl, rfl⟩
  go_wp2_with fail
  go_ret
  exact ⟨rfl, rfl⟩
set_option linter.unusedVariables false in
set_option linter.unusedSimpArgs false in
set_option maxRecDepth 100000 in
set_option maxHeartbeats 16000000 in
theorem cmp_gt (x y : Nat) (w : World) (h : y < x) : Calls Try.prog 75 #[.int .u32 (x : Int), .int .u32 (y : Int)] w fun e w' => e = .returned (.int .i64 1) ∧ w = w' := by
  have h2 : decide (x < y) = false := decide_eq_false (by omega)
  go_enter Try.func75, Try.ntmps75
  go_wp2_with fail
  with_reducible refine (nan_any _ _).mono ?_
  rintro e _ ⟨rfl, rfl⟩
  go_wp2_with fail
  with_reducible refine (nan_any _ _).mono ?_
  rintro e _ ⟨rfl, rfl⟩
  go_wp2_with fail
  go_ret
  exact ⟨rfl, rfl⟩
set_option linter.unusedVariables false in
set_option linter.unusedSimpArgs false in
set_option maxRecDepth 100000 in
set_option maxHeartbeats 16000000 in
theorem cmp_eq (x y : Nat) (w : World) (h : x = y) : Calls Try.prog 75 #[.int .u32 (x : Int), .int .u32 (y : Int)] w fun e w' => e = .returned (.int .i64 0) ∧ w = w' := by
  subst h
  have h2 : decide (x < x) = false := decide_eq_false (by omega)
  go_enter Try.func75, Try.ntmps75
  go_wp2_with fail
  with_reducible refine (nan_any _ _).mono ?_
  rintro e _ ⟨rfl, rfl⟩
  go_wp2_with fail
  with_reducible refine (nan_any _ _).mono ?_
  rintro e _ ⟨rfl, rfl⟩
  go_wp2_with fail
  go_ret
  exact ⟨rfl, rfl⟩
def cmpN (x y : Nat) : Int := if x < y then -1 else if y < x then 1 else 0
theorem cmp_any (x y : Nat) (w : World) : Calls Try.prog 75 #[.int .u32 (x : Int), .int .u32 (y : Int)] w fun e w' => e = .returned (.int .i64 (cmpN x y)) ∧ w = w' := by
  unfold cmpN
  by_cases h1 : x < y
  · rw [if_pos h1]; exact cmp_lt x y w h1
  · by_cases h2 : y < x
    · rw [if_neg h1, if_pos h2]; exact cmp_gt x y w h2
    · rw [if_neg h1, if_neg h2]; exact cmp_eq x y w (by omega)
open Go.RowKit

set_option linter.unusedVariables false in
set_option linter.unusedSimpArgs false in
set_option maxRecDepth 100000 in
set_option maxHeartbeats 16000000 in
theorem pcmp_any (x y : Ad4) (w : World) : Calls Try.prog 60 #[.agg #[.int .u8 (x.a.toNat : Int), .int .u8 (x.b.toNat : Int), .int .u8 (x.c.toNat : Int), .int .u8 (x.d.toNat : Int)], .agg #[.int .u8 (y.a.toNat : Int), .int .u8 (y.b.toNat : Int), .int .u8 (y.c.toNat : Int), .int .u8 (y.d.toNat : Int)]] w fun e w' => e = .returned (.int .i64 (cmpN x.num y.num)) ∧ Below w.heap.size w w' := by
  have bel := Below.refl w.heap.size w
  go_enter Try.func60, Try.ntmps60
  go_wp2_with (first | ((with_reducible show wpList _ _ _ (⟨some 2, _, _, _, _, _⟩ :: _) _ _); refine wpList_box_n rfl 28 (.tmp 0) rfl #[.int .u8 (x.a.toNat : Int), .int .u8 (x.b.toNat : Int), .int .u8 (x.c.toNat : Int), .int .u8 (x.d.toNat : Int)] rfl ?_; intro g2 w1 ge lt hh bb; have oxb := Nat.le_trans bel.size ge; replace bel := bel.trans (bb.mono bel.size); have hxb := hh; clear hh lt ge bb) | ((with_reducible show wpList _ _ _ (⟨some 3, _, _, _, _, _⟩ :: _) _ _); refine wpList_box_n rfl 28 (.tmp 1) rfl #[.int .u8 (y.a.toNat : Int), .int .u8 (y.b.toNat : Int), .int .u8 (y.c.toNat : Int), .int .u8 (y.d.toNat : Int)] rfl ?_; intro g3 w2 ge lt hh bb; have d_xb_yb := ne_new (hlt hxb) ge; have oyb := Nat.le_trans bel.size ge; replace hxb := blk_u hxb bb; replace bel := bel.trans (bb.mono bel.size); have hyb := hh; clear hh lt ge bb))
  replace bel := bel.drew
  replace hxb : w2.drew.heap[g2]? = _ := hxb
  replace hyb : w2.drew.heap[g3]? = _ := hyb
  refine wp_region_held_drew (S := fun W => W.heap[g2]? = some (.cells #[.int .u8 (x.a.toNat : Int), .int .u8 (x.b.toNat : Int), .int .u8 (x.c.toNat : Int), .int .u8 (x.d.toNat : Int)] 28 (0, 0)) ∧ W.heap[g3]? = some (.cells #[.int .u8 (y.a.toNat : Int), .int .u8 (y.b.toNat : Int), .int .u8 (y.c.toNat : Int), .int .u8 (y.d.toNat : Int)] 28 (0, 0))) (by kernel_rfl) ⟨hxb, hyb⟩ (fun hH => ?_)
  generalize w2.drew = w3 at bel hxb hyb hH ⊢
  refine wpAnyH_take (i := 0) (v := .agg #[.int .u8 (x.a.toNat : Int), .int .u8 (x.b.toNat : Int), .int .u8 (x.c.toNat : Int), .int .u8 (x.d.toNat : Int)]) rfl (by kernel_rfl) (by kernel_rfl) (by kernel_rfl) (fun _ _ _ h => h) (yieldsIf_load_part (by kernel_rfl) 28 _ rfl g2 0 4 rfl _ 28 (0, 0) (fun W hW => hW.1) _ rfl _ Try.underlying28 rfl (by kernel_rfl)) hH ?_
  simp only [Act.put, List.getElem_toArray, List.getElem_cons_zero, List.setIfInBounds_toArray, List.set_cons_zero, List.set_cons_succ]
  refine wpAnyH_take (i := 2) (v := .agg #[.int .u8 (y.a.toNat : Int), .int .u8 (y.b.toNat : Int), .int .u8 (y.c.toNat : Int), .int .u8 (y.d.toNat : Int)]) rfl (by kernel_rfl) (by kernel_rfl) (by kernel_rfl) (fun _ _ _ h => h) (yieldsIf_load_part (by kernel_rfl) 28 _ rfl g3 0 4 rfl _ 28 (0, 0) (fun W hW => hW.2) _ rfl _ Try.underlying28 rfl (by kernel_rfl)) hH ?_
  simp only [sq3, sq4]
  refine wpAnyH_ready (rs := [1]) (by kernel_rfl) (by simp) ?_
  refine AllReadyH.cons (o := _) rfl (fun K hK => ?_) AllReadyH.nil
  simp only [sq3]
  go_simp
  with_reducible refine (num_any x _).mono ?_
  rintro e w4 ⟨rfl, b4⟩
  dsimp only
  replace hxb := blk_u hxb b4
  replace hyb := blk_u hyb b4
  replace bel := bel.trans (b4.mono bel.size)
  clear b4
  refine hK.out _ _ ⟨hxb, hyb⟩ (fun hH5 => ?_)
  clear hK K
  refine wpAnyH_ready (rs := [3]) (by kernel_rfl) (by simp) ?_
  refine AllReadyH.cons (o := _) rfl (fun K hK => ?_) AllReadyH.nil
  simp only [sq3]
  go_simp
  with_reducible refine (num_any y _).mono ?_
  rintro e w6 ⟨rfl, b6⟩
  dsimp only
  replace hxb := blk_u hxb b6
  replace hyb := blk_u hyb b6
  replace bel := bel.trans (b6.mono bel.size)
  clear b6
  refine hK.out _ _ ⟨hxb, hyb⟩ (fun hH7 => ?_)
  clear hK K
  refine wpAnyH_ready (rs := [4]) (by kernel_rfl) (by simp) ?_
  refine AllReadyH.cons (o := _) rfl (fun K hK => ?_) AllReadyH.nil
  simp only [sq3]
  go_simp
  with_reducible refine (cmp_any _ _ _).mono ?_
  rintro e _ ⟨rfl, rfl⟩
  dsimp only
  refine hK.out _ _ ⟨hxb, hyb⟩ (fun hH8 => ?_)
  clear hK K
  refine wpAnyH_take (i := 5) (v := ?_) rfl (by kernel_rfl) (by kernel_rfl) (by kernel_rfl) (fun _ _ _ h => h) (Or.inl ⟨by rfl, ?_⟩) hH8 ?_
  rotate_left
  · ((intro W hW; clear hW; go_simp) <;> with_reducible rfl)
  simp only [sq3, sq4]
  refine wpAnyH_done (by kernel_rfl) ?_ _
  go_wp2_with fail
  go_ret
  exact ⟨rfl, bel⟩
set_option linter.unusedVariables false in
set_option linter.unusedSimpArgs false in
set_option maxRecDepth 100000 in
set_option maxHeartbeats 16000000 in
theorem pfindf_any (x : Sd) (y : Ad4) (w : World) : Calls Try.prog 71 #[.agg #[.int .u8 (x.m.a.toNat : Int), .int .u8 (x.m.b.toNat : Int), .int .u8 (x.m.c.toNat : Int), .int .u8 (x.m.d.toNat : Int), .int .u8 (x.m.e.toNat : Int), .int .u8 (x.m.f.toNat : Int), .int .u8 (x.ad.a.toNat : Int), .int .u8 (x.ad.b.toNat : Int), .int .u8 (x.ad.c.toNat : Int), .int .u8 (x.ad.d.toNat : Int), .int .i64 x.u, .bool x.fx, .bool x.le, .bool x.rp, .int .i64 x.br], .agg #[.int .u8 (y.a.toNat : Int), .int .u8 (y.b.toNat : Int), .int .u8 (y.c.toNat : Int), .int .u8 (y.d.toNat : Int)]] w fun e w' => e = .returned (.int .i64 (cmpN x.num y.num)) ∧ Below w.heap.size w w' := by
  have bel := Below.refl w.heap.size w
  go_enter Try.func71, Try.ntmps71
  go_wp2_with (first | ((with_reducible show wpList _ _ _ (⟨some 2, _, _, _, _, _⟩ :: _) _ _); refine wpList_box_n rfl 101 (.tmp 0) rfl #[.int .u8 (x.m.a.toNat : Int), .int .u8 (x.m.b.toNat : Int), .int .u8 (x.m.c.toNat : Int), .int .u8 (x.m.d.toNat : Int), .int .u8 (x.m.e.toNat : Int), .int .u8 (x.m.f.toNat : Int), .int .u8 (x.ad.a.toNat : Int), .int .u8 (x.ad.b.toNat : Int), .int .u8 (x.ad.c.toNat : Int), .int .u8 (x.ad.d.toNat : Int), .int .i64 x.u, .bool x.fx, .bool x.le, .bool x.rp, .int .i64 x.br] rfl ?_; intro g2 w1 ge lt hh bb; have oeb := Nat.le_trans bel.size ge; replace bel := bel.trans (bb.mono bel.size); have heb := hh; clear hh lt ge bb) | ((with_reducible show wpList _ _ _ (⟨some 3, _, _, _, _, _⟩ :: _) _ _); refine wpList_box_n rfl 28 (.tmp 1) rfl #[.int .u8 (y.a.toNat : Int), .int .u8 (y.b.toNat : Int), .int .u8 (y.c.toNat : Int), .int .u8 (y.d.toNat : Int)] rfl ?_; intro g3 w2 ge lt hh bb; have d_eb_ab := ne_new (hlt heb) ge; have oab := Nat.le_trans bel.size ge; replace heb := blk_u heb bb; replace bel := bel.trans (bb.mono bel.size); have hab := hh; clear hh lt ge bb; have R7 := Lib.hid (range_lit heb 6 4 [.int .u8 (x.ad.a.toNat : Int), .int .u8 (x.ad.b.toNat : Int), .int .u8 (x.ad.c.toNat : Int), .int .u8 (x.ad.d.toNat : Int)] rfl)) | ((with_reducible show wpList _ _ _ (⟨some 7, _, _, _, _, _⟩ :: _) _ _); refine wpList_load_rng 28 (.tmp 6) rfl (by kernel_rfl) _ _ rfl _ R7.out _ Try.underlying28 rfl (by kernel_rfl) ?_; have R8 := Lib.hid (range_lit hab 0 4 [.int .u8 (y.a.toNat : Int), .int .u8 (y.b.toNat : Int), .int .u8 (y.c.toNat : Int), .int .u8 (y.d.toNat : Int)] rfl)) | ((with_reducible show wpList _ _ _ (⟨some 8, _, _, _, _, _⟩ :: _) _ _); refine wpList_load_rng 28 (.tmp 3) rfl (by kernel_rfl) _ _ rfl _ R8.out _ Try.underlying28 rfl (by kernel_rfl) ?_))
  try clear R7
  try clear R8
  with_reducible refine (pcmp_any x.ad y _).mono ?_
  rintro e w3 ⟨rfl, b3⟩
  replace heb := blk_u heb b3
  replace hab := blk_u hab b3
  replace bel := bel.trans (b3.mono bel.size)
  clear b3
  go_wp2_with fail
  go_ret
  exact ⟨rfl, bel⟩
set_option linter.unusedVariables false in
set_option linter.unusedSimpArgs false in
set_option maxRecDepth 100000 in
set_option maxHeartbeats 16000000 in
theorem presf_any (x y : Sd) (w : World) : Calls Try.prog 59 #[.agg #[.int .u8 (x.m.a.toNat : Int), .int .u8 (x.m.b.toNat : Int), .int .u8 (x.m.c.toNat : Int), .int .u8 (x.m.d.toNat : Int), .int .u8 (x.m.e.toNat : Int), .int .u8 (x.m.f.toNat : Int), .int .u8 (x.ad.a.toNat : Int), .int .u8 (x.ad.b.toNat : Int), .int .u8 (x.ad.c.toNat : Int), .int .u8 (x.ad.d.toNat : Int), .int .i64 x.u, .bool x.fx, .bool x.le, .bool x.rp, .int .i64 x.br], .agg #[.int .u8 (y.m.a.toNat : Int), .int .u8 (y.m.b.toNat : Int), .int .u8 (y.m.c.toNat : Int), .int .u8 (y.m.d.toNat : Int), .int .u8 (y.m.e.toNat : Int), .int .u8 (y.m.f.toNat : Int), .int .u8 (y.ad.a.toNat : Int), .int .u8 (y.ad.b.toNat : Int), .int .u8 (y.ad.c.toNat : Int), .int .u8 (y.ad.d.toNat : Int), .int .i64 y.u, .bool y.fx, .bool y.le, .bool y.rp, .int .i64 y.br]] w fun e w' => e = .returned (.int .i64 (cmpN x.num y.num)) ∧ Below w.heap.size w w' := by
  have bel := Below.refl w.heap.size w
  go_enter Try.func59, Try.ntmps59
  go_wp2_with (first | ((with_reducible show wpList _ _ _ (⟨some 2, _, _, _, _, _⟩ :: _) _ _); refine wpList_box_n rfl 101 (.tmp 0) rfl #[.int .u8 (x.m.a.toNat : Int), .int .u8 (x.m.b.toNat : Int), .int .u8 (x.m.c.toNat : Int), .int .u8 (x.m.d.toNat : Int), .int .u8 (x.m.e.toNat : Int), .int .u8 (x.m.f.toNat : Int), .int .u8 (x.ad.a.toNat : Int), .int .u8 (x.ad.b.toNat : Int), .int .u8 (x.ad.c.toNat : Int), .int .u8 (x.ad.d.toNat : Int), .int .i64 x.u, .bool x.fx, .bool x.le, .bool x.rp, .int .i64 x.br] rfl ?_; intro g2 w1 ge lt hh bb; have oeb := Nat.le_trans bel.size ge; replace bel := bel.trans (bb.mono bel.size); have heb := hh; clear hh lt ge bb) | ((with_reducible show wpList _ _ _ (⟨some 3, _, _, _, _, _⟩ :: _) _ _); refine wpList_box_n rfl 101 (.tmp 1) rfl #[.int .u8 (y.m.a.toNat : Int), .int .u8 (y.m.b.toNat : Int), .int .u8 (y.m.c.toNat : Int), .int .u8 (y.m.d.toNat : Int), .int .u8 (y.m.e.toNat : Int), .int .u8 (y.m.f.toNat : Int), .int .u8 (y.ad.a.toNat : Int), .int .u8 (y.ad.b.toNat : Int), .int .u8 (y.ad.c.toNat : Int), .int .u8 (y.ad.d.toNat : Int), .int .i64 y.u, .bool y.fx, .bool y.le, .bool y.rp, .int .i64 y.br] rfl ?_; intro g3 w2 ge lt hh bb; have d_eb_ab := ne_new (hlt heb) ge; have oab := Nat.le_trans bel.size ge; replace heb := blk_u heb bb; replace bel := bel.trans (bb.mono bel.size); have hab := hh; clear hh lt ge bb; have R7 := Lib.hid (range_lit heb 6 4 [.int .u8 (x.ad.a.toNat : Int), .int .u8 (x.ad.b.toNat : Int), .int .u8 (x.ad.c.toNat : Int), .int .u8 (x.ad.d.toNat : Int)] rfl)) | ((with_reducible show wpList _ _ _ (⟨some 7, _, _, _, _, _⟩ :: _) _ _); refine wpList_load_rng 28 (.tmp 6) rfl (by kernel_rfl) _ _ rfl _ R7.out _ Try.underlying28 rfl (by kernel_rfl) ?_; have R10 := Lib.hid (range_lit hab 6 4 [.int .u8 (y.ad.a.toNat : Int), .int .u8 (y.ad.b.toNat : Int), .int .u8 (y.ad.c.toNat : Int), .int .u8 (y.ad.d.toNat : Int)] rfl)) | ((with_reducible show wpList _ _ _ (⟨some 10, _, _, _, _, _⟩ :: _) _ _); refine wpList_load_rng 28 (.tmp 9) rfl (by kernel_rfl) _ _ rfl _ R10.out _ Try.underlying28 rfl (by kernel_rfl) ?_))
  try clear R7
  try clear R10
  with_reducible refine (pcmp_any x.ad y.ad _).mono ?_
  rintro e w3 ⟨rfl, b3⟩
  replace heb := blk_u heb b3
  replace hab := blk_u hab b3
  replace bel := bel.trans (b3.mono bel.size)
  clear b3
  go_wp2_with fail
  go_ret
  exact ⟨rfl, bel⟩
set_option linter.unusedVariables false in
set_option linter.unusedSimpArgs false in
set_option maxRecDepth 100000 in
set_option maxHeartbeats 16000000 in
theorem live_el {gE n c i : Nat} {l : List Sd} {x : Sd} {now : Int} {b : Bool} (w : World) (en : Sle slE 15 w (some ⟨gE, 0, none⟩) n c l) (hx : l[i]? = some x) (hb : x.liveB now = b) : Calls Try.prog 53 #[.pointer (some ⟨gE, i * 15, none⟩), .int .i64 now] w fun e w' => e = .returned (.bool b) ∧ w = w' := by
  have HX := Lib.hid hx
  clear hx
  skip
  go_enter Try.func53, Try.ntmps53
  have R10 := Sle.zcell en HX.out 10 _ rfl
  go_wp2_with fail
  clear R10
  go_ret
  exact ⟨by rw [← hb]; rfl, rfl⟩
set_option linter.unusedVariables false in
set_option linter.unusedSimpArgs false in
set_option maxRecDepth 100000 in
set_option maxHeartbeats 16000000 in
theorem live_box {ge : Nat} {x : Sd} {now : Int} {b : Bool} (w : World) (heb : w.heap[ge]? = some (.cells #[.int .u8 (x.m.a.toNat : Int), .int .u8 (x.m.b.toNat : Int), .int .u8 (x.m.c.toNat : Int), .int .u8 (x.m.d.toNat : Int), .int .u8 (x.m.e.toNat : Int), .int .u8 (x.m.f.toNat : Int), .int .u8 (x.ad.a.toNat : Int), .int .u8 (x.ad.b.toNat : Int), .int .u8 (x.ad.c.toNat : Int), .int .u8 (x.ad.d.toNat : Int), .int .i64 x.u, .bool x.fx, .bool x.le, .bool x.rp, .int .i64 x.br] 101 (0, 0))) (hb : x.liveB now = b) : Calls Try.prog 53 #[.pointer (some ⟨ge, 0, none⟩), .int .i64 now] w fun e w' => e = .returned (.bool b) ∧ w = w' := by
  skip
  go_enter Try.func53, Try.ntmps53
  have R10 := cell_lit heb 10 _ rfl
  go_wp2_with fail
  clear R10
  go_ret
  exact ⟨by rw [← hb]; rfl, rfl⟩
set_option linter.unusedVariables false in
set_option linter.unusedSimpArgs false in
set_option maxRecDepth 100000 in
set_option maxHeartbeats 16000000 in
theorem held_el {m : Mc6} {gE n c i : Nat} {l : List Sd} {x : Sd} {now : Int} {b : Bool} (w : World) (en : Sle slE 15 w (some ⟨gE, 0, none⟩) n c l) (hx : l[i]? = some x) (hb : x.heldB m now = b) : Calls Try.prog 78 #[.pointer (some ⟨gE, i * 15, none⟩), .agg #[.int .u8 (m.a.toNat : Int), .int .u8 (m.b.toNat : Int), .int .u8 (m.c.toNat : Int), .int .u8 (m.d.toNat : Int), .int .u8 (m.e.toNat : Int), .int .u8 (m.f.toNat : Int)], .int .i64 now] w fun e w' => e = .returned (.bool b) ∧ Below w.heap.size w w' := by
  have HX := Lib.hid hx
  clear hx
  obtain ⟨b1, H1_⟩ : ∃ b, x.liveB now = b := ⟨_, rfl⟩
  have H1 := Lib.hid H1_
  clear H1_
  obtain ⟨b2, H2_⟩ : ∃ b, x.m.eqB m = b := ⟨_, rfl⟩
  have H2 := Lib.hid H2_
  clear H2_
  have q17 : ∀ W, (binOp .eql 32 (.agg #[.int .u8 (x.m.a.toNat : Int), .int .u8 (x.m.b.toNat : Int), .int .u8 (x.m.c.toNat : Int), .int .u8 (x.m.d.toNat : Int), .int .u8 (x.m.e.toNat : Int), .int .u8 (x.m.f.toNat : Int)]) (.agg #[.int .u8 (m.a.toNat : Int), .int .u8 (m.b.toNat : Int), .int .u8 (m.c.toNat : Int), .int .u8 (m.d.toNat : Int), .int .u8 (m.e.toNat : Int), .int .u8 (m.f.toNat : Int)])).run Try.prog W = .ok (.bool b2) W := fun W => by have h_ := eqm_b x.m m W; rw [H2.out] at h_; exact h_
  have bel := Below.refl w.heap.size w
  go_enter Try.func78, Try.ntmps78
  go_wp2_with (first | ((with_reducible show wpList _ _ _ (⟨some 4, _, _, _, _, _⟩ :: _) _ _); refine wpList_box_n rfl 32 (.tmp 1) rfl #[.int .u8 (m.a.toNat : Int), .int .u8 (m.b.toNat : Int), .int .u8 (m.c.toNat : Int), .int .u8 (m.d.toNat : Int), .int .u8 (m.e.toNat : Int), .int .u8 (m.f.toNat : Int)] rfl ?_; intro g4 w1 ge lt hh bb; have av_en_mb := en.av_new ge; have omb := Nat.le_trans bel.size ge; replace en := en.below bb; replace bel := bel.trans (bb.mono bel.size); have hmb := hh; clear hh lt ge bb))
  replace bel := bel.drew
  replace hmb : w1.drew.heap[g4]? = _ := hmb
  replace en := en.drew
  refine wp_region_held_drew (S := fun W => W.heap[g4]? = some (.cells #[.int .u8 (m.a.toNat : Int), .int .u8 (m.b.toNat : Int), .int .u8 (m.c.toNat : Int), .int .u8 (m.d.toNat : Int), .int .u8 (m.e.toNat : Int), .int .u8 (m.f.toNat : Int)] 32 (0, 0)) ∧ Sle slE 15 W (some ⟨gE, 0, none⟩) (n) (c) (l)) (by kernel_rfl) ⟨hmb, en⟩ (fun hH => ?_)
  generalize w1.drew = w2 at bel hmb en hH ⊢
  refine wpAnyH_take (i := 0) (v := ?_) rfl (by kernel_rfl) (by kernel_rfl) (by kernel_rfl) (fun _ _ _ h => h) (Or.inl ⟨by rfl, ?_⟩) hH ?_
  rotate_left
  · ((intro W hW; clear hW; go_simp) <;> with_reducible rfl)
  simp only [Act.put, List.getElem_toArray, List.getElem_cons_zero, List.setIfInBounds_toArray, List.set_cons_zero, List.set_cons_succ]
  refine wpAnyH_take (i := 1) (v := ?_) rfl (by kernel_rfl) (by kernel_rfl) (by kernel_rfl) (fun _ _ _ h => h) (Or.inl ⟨by rfl, ?_⟩) hH ?_
  rotate_left
  · ((intro W hW; clear hW; go_simp) <;> with_reducible rfl)
  simp only [sq3, sq4]
  rcases b1 with _ | _
  · refine wpAnyH_ready (rs := [2]) (by kernel_rfl) (by simp) ?_
    refine AllReadyH.cons (o := _) rfl (fun K hK => ?_) AllReadyH.nil
    simp only [sq3]
    go_simp
    with_reducible refine (live_el _ en HX.out H1.out).mono ?_
    rintro e _ ⟨rfl, rfl⟩
    dsimp only
    refine hK.out _ _ ⟨hmb, en⟩ (fun hH3 => ?_)
    clear hK K
    refine wpAnyH_take (i := 3) (v := ?_) rfl (by kernel_rfl) (by kernel_rfl) (by kernel_rfl) (fun _ _ _ h => h) (Or.inl ⟨by rfl, ?_⟩) hH3 ?_
    rotate_left
    · ((intro W hW; clear hW; go_simp) <;> with_reducible rfl)
    simp only [sq3, sq4]
    refine wpAnyH_take (i := 4) (v := undef) rfl (by kernel_rfl) (by kernel_rfl) (by kernel_rfl) (fun _ _ _ h => h) (Or.inr ⟨by rfl, rfl⟩) hH3 ?_
    simp only [sq3, sq4]
    refine wpAnyH_take (i := 5) (v := undef) rfl (by kernel_rfl) (by kernel_rfl) (by kernel_rfl) (fun _ _ _ h => h) (Or.inr ⟨by rfl, rfl⟩) hH3 ?_
    simp only [sq3, sq4]
    refine wpAnyH_take (i := 6) (v := undef) rfl (by kernel_rfl) (by kernel_rfl) (by kernel_rfl) (fun _ _ _ h => h) (Or.inr ⟨by rfl, rfl⟩) hH3 ?_
    simp only [sq3, sq4]
    refine wpAnyH_take (i := 7) (v := undef) rfl (by kernel_rfl) (by kernel_rfl) (by kernel_rfl) (fun _ _ _ h => h) (Or.inr ⟨by rfl, rfl⟩) hH3 ?_
    simp only [sq3, sq4]
    refine wpAnyH_take (i := 8) (v := undef) rfl (by kernel_rfl) (by kernel_rfl) (by kernel_rfl) (fun _ _ _ h => h) (Or.inr ⟨by rfl, rfl⟩) hH3 ?_
    simp only [sq3, sq4]
    refine wpAnyH_take (i := 9) (v := undef) rfl (by kernel_rfl) (by kernel_rfl) (by kernel_rfl) (fun _ _ _ h => h) (Or.inr ⟨by rfl, rfl⟩) hH3 ?_
    simp only [sq3, sq4]
    refine wpAnyH_take (i := 10) (v := undef) rfl (by kernel_rfl) (by kernel_rfl) (by kernel_rfl) (fun _ _ _ h => h) (Or.inr ⟨by rfl, rfl⟩) hH3 ?_
    simp only [sq3, sq4]
    refine wpAnyH_take (i := 11) (v := ?_) rfl (by kernel_rfl) (by kernel_rfl) (by kernel_rfl) (fun _ _ _ h => h) (Or.inl ⟨by rfl, ?_⟩) hH3 ?_
    rotate_left
    · ((intro W hW; clear hW; go_simp) <;> with_reducible rfl)
    simp only [sq3, sq4]
    refine wpAnyH_take (i := 12) (v := ?_) rfl (by kernel_rfl) (by kernel_rfl) (by kernel_rfl) (fun _ _ _ h => h) (Or.inl ⟨by rfl, ?_⟩) hH3 ?_
    rotate_left
    · ((intro W hW; clear hW; go_simp) <;> with_reducible rfl)
    simp only [sq3, sq4]
    refine wpAnyH_done (by kernel_rfl) ?_ _
    go_wp2_with fail
    go_ret
    exact ⟨by rw [← hb]; unfold Sd.heldB; rw [H1.out, Bool.false_and]; rfl, bel⟩
  refine wpAnyH_ready (rs := [2]) (by kernel_rfl) (by simp) ?_
  refine AllReadyH.cons (o := _) rfl (fun K hK => ?_) AllReadyH.nil
  simp only [sq3]
  go_simp
  with_reducible refine (live_el _ en HX.out H1.out).mono ?_
  rintro e _ ⟨rfl, rfl⟩
  dsimp only
  refine hK.out _ _ ⟨hmb, en⟩ (fun hH3 => ?_)
  clear hK K
  refine wpAnyH_take (i := 3) (v := ?_) rfl (by kernel_rfl) (by kernel_rfl) (by kernel_rfl) (fun _ _ _ h => h) (Or.inl ⟨by rfl, ?_⟩) hH3 ?_
  rotate_left
  · ((intro W hW; clear hW; go_simp) <;> with_reducible rfl)
  simp only [sq3, sq4]
  refine wpAnyH_take (i := 4) (v := ?_) rfl (by kernel_rfl) (by kernel_rfl) (by kernel_rfl) (fun _ _ _ h => h) (Or.inl ⟨by rfl, ?_⟩) hH3 ?_
  rotate_left
  · ((intro W hW; clear hW; go_simp) <;> with_reducible rfl)
  simp only [sq3, sq4]
  refine wpAnyH_take (i := 5) (v := ?_) rfl (by kernel_rfl) (by kernel_rfl) (by kernel_rfl) (fun _ _ _ h => h) (Or.inl ⟨by rfl, ?_⟩) hH3 ?_
  rotate_left
  · ((intro W hW; clear hW; go_simp) <;> with_reducible rfl)
  simp only [sq3, sq4]
  refine wpAnyH_take (i := 6) (v := ?_) rfl (by kernel_rfl) (by kernel_rfl) (by kernel_rfl) (fun _ _ _ h => h) (Or.inl ⟨by rfl, ?_⟩) hH3 ?_
  rotate_left
  · ((intro W hW; clear hW; go_simp) <;> with_reducible rfl)
  simp only [sq3, sq4]
  refine wpAnyH_take (i := 7) (v := ?_) rfl (by kernel_rfl) (by kernel_rfl) (by kernel_rfl) (fun _ _ _ h => h) (Or.inl ⟨by rfl, ?_⟩) hH3 ?_
  rotate_left
  · ((intro W hW; clear hW; go_simp) <;> with_reducible rfl)
  simp only [sq3, sq4]
  refine wpAnyH_take (i := 8) (v := .agg #[.int .u8 (x.m.a.toNat : Int), .int .u8 (x.m.b.toNat : Int), .int .u8 (x.m.c.toNat : Int), .int .u8 (x.m.d.toNat : Int), .int .u8 (x.m.e.toNat : Int), .int .u8 (x.m.f.toNat : Int)]) rfl (by kernel_rfl) (by kernel_rfl) (by kernel_rfl) (fun _ _ _ h => h) (yieldsIf_load_mid (by kernel_rfl) 32 _ rfl gE (i * 15) rfl [.int .u8 (x.m.a.toNat : Int), .int .u8 (x.m.b.toNat : Int), .int .u8 (x.m.c.toNat : Int), .int .u8 (x.m.d.toNat : Int), .int .u8 (x.m.e.toNat : Int), .int .u8 (x.m.f.toNat : Int)] _ (fun W hW => Sle.zrange0 (hW.2) HX.out 6 [.int .u8 (x.m.a.toNat : Int), .int .u8 (x.m.b.toNat : Int), .int .u8 (x.m.c.toNat : Int), .int .u8 (x.m.d.toNat : Int), .int .u8 (x.m.e.toNat : Int), .int .u8 (x.m.f.toNat : Int)] rfl) Try.underlying32 rfl (by kernel_rfl)) hH3 ?_
  simp only [sq3, sq4]
  refine wpAnyH_take (i := 9) (v := .agg #[.int .u8 (m.a.toNat : Int), .int .u8 (m.b.toNat : Int), .int .u8 (m.c.toNat : Int), .int .u8 (m.d.toNat : Int), .int .u8 (m.e.toNat : Int), .int .u8 (m.f.toNat : Int)]) rfl (by kernel_rfl) (by kernel_rfl) (by kernel_rfl) (fun _ _ _ h => h) (yieldsIf_load_part (by kernel_rfl) 32 _ rfl g4 0 6 rfl _ 32 (0, 0) (fun W hW => hW.1) _ rfl _ Try.underlying32 rfl (by kernel_rfl)) hH3 ?_
  simp only [sq3, sq4]
  refine wpAnyH_take (i := 10) (v := ?_) rfl (by kernel_rfl) (by kernel_rfl) (by kernel_rfl) (fun _ _ _ h => h) (Or.inl ⟨by rfl, ?_⟩) hH3 ?_
  rotate_left
  · ((intro W hW; clear hW; go_simp) <;> with_reducible rfl)
  simp only [sq3, sq4]
  refine wpAnyH_take (i := 11) (v := ?_) rfl (by kernel_rfl) (by kernel_rfl) (by kernel_rfl) (fun _ _ _ h => h) (Or.inl ⟨by rfl, ?_⟩) hH3 ?_
  rotate_left
  · ((intro W hW; clear hW; go_simp) <;> with_reducible rfl)
  simp only [sq3, sq4]
  refine wpAnyH_take (i := 12) (v := ?_) rfl (by kernel_rfl) (by kernel_rfl) (by kernel_rfl) (fun _ _ _ h => h) (Or.inl ⟨by rfl, ?_⟩) hH3 ?_
  rotate_left
  · ((intro W hW; clear hW; go_simp) <;> with_reducible rfl)
  simp only [sq3, sq4]
  refine wpAnyH_done (by kernel_rfl) ?_ _
  go_wp2_with fail
  go_ret
  exact ⟨by rw [← hb]; unfold Sd.heldB; rw [H1.out, H2.out, Bool.true_and]; rfl, bel⟩
set_option linter.unusedVariables false in
set_option linter.unusedSimpArgs false in
set_option maxRecDepth 100000 in
set_option maxHeartbeats 16000000 in
theorem free_el {gE n c i : Nat} {l : List Sd} {x : Sd} {now : Int} {b : Bool} (w : World) (en : Sle slE 15 w (some ⟨gE, 0, none⟩) n c l) (hx : l[i]? = some x) (hb : x.freeB now = b) : Calls Try.prog 64 #[.pointer (some ⟨gE, i * 15, none⟩), .int .i64 now] w fun e w' => e = .returned (.bool b) ∧ w = w' := by
  obtain ⟨xm, xa, xu, xf, xl, xr, xb⟩ := x
  have HX := Lib.hid hx
  clear hx
  skip
  go_enter Try.func64, Try.ntmps64
  rcases xf with _ | _
  rotate_left
  · have R8 := Sle.zcell en HX.out 11 _ rfl
    go_wp2_with fail
    clear R8
    go_ret
    exact ⟨by rw [← hb]; unfold Sd.freeB; rfl, rfl⟩
  obtain ⟨b1, H1_⟩ : ∃ b, Sd.liveB now ⟨xm, xa, xu, false, xl, xr, xb⟩ = b := ⟨_, rfl⟩
  have H1 := Lib.hid H1_
  clear H1_
  rcases b1 with _ | _
  rotate_left
  · have R8 := Sle.zcell en HX.out 11 _ rfl
    go_wp2_with fail
    clear R8
    with_reducible refine (live_el _ en HX.out H1.out).mono ?_
    rintro e _ ⟨rfl, rfl⟩
    go_wp2_with fail
    go_ret
    exact ⟨by rw [← hb]; unfold Sd.freeB; rw [H1.out]; rfl, rfl⟩
  have R8 := Sle.zcell en HX.out 11 _ rfl
  go_wp2_with fail
  clear R8
  with_reducible refine (live_el _ en HX.out H1.out).mono ?_
  rintro e _ ⟨rfl, rfl⟩
  have R21 := Sle.zcell en HX.out 14 _ rfl
  go_wp2_with fail
  clear R21
  go_ret
  exact ⟨by rw [← hb]; unfold Sd.freeB; rw [H1.out]; rfl, rfl⟩
set_option linter.unusedVariables false in
set_option linter.unusedSimpArgs false in
set_option maxRecDepth 100000 in
set_option maxHeartbeats 16000000 in
theorem rank_el {m : Mc6} {r : Int} {gE n c i : Nat} {l : List Sd} {x : Sd} (w : World) (en : Sle slE 15 w (some ⟨gE, 0, none⟩) n c l) (hx : l[i]? = some x) (hb : x.rank m = r) : Calls Try.prog 79 #[.pointer (some ⟨gE, i * 15, none⟩), .agg #[.int .u8 (m.a.toNat : Int), .int .u8 (m.b.toNat : Int), .int .u8 (m.c.toNat : Int), .int .u8 (m.d.toNat : Int), .int .u8 (m.e.toNat : Int), .int .u8 (m.f.toNat : Int)]] w fun e w' => e = .returned (.int .i64 r) ∧ Below w.heap.size w w' := by
  obtain ⟨xm, xa, xu, xf, xl, xr, xb⟩ := x
  have HX := Lib.hid hx
  clear hx
  have bel := Below.refl w.heap.size w
  go_enter Try.func79, Try.ntmps79
  rcases xl with _ | _
  · go_wp2_with (first | ((with_reducible show wpList _ _ _ (⟨some 3, _, _, _, _, _⟩ :: _) _ _); refine wpList_box_n rfl 32 (.tmp 1) rfl #[.int .u8 (m.a.toNat : Int), .int .u8 (m.b.toNat : Int), .int .u8 (m.c.toNat : Int), .int .u8 (m.d.toNat : Int), .int .u8 (m.e.toNat : Int), .int .u8 (m.f.toNat : Int)] rfl ?_; intro g3 w1 ge lt hh bb; have av_en_mb := en.av_new ge; have omb := Nat.le_trans bel.size ge; replace en := en.below bb; replace bel := bel.trans (bb.mono bel.size); have hmb := hh; clear hh lt ge bb; have R9 := Sle.zcell en HX.out 12 _ rfl))
    try clear R9
    go_ret
    exact ⟨by rw [← hb]; unfold Sd.rank; rfl, bel⟩
  obtain ⟨b2, H2_⟩ : ∃ b, xm.eqB m = b := ⟨_, rfl⟩
  have H2 := Lib.hid H2_
  clear H2_
  have q18 : ∀ W, (binOp .eql 32 (.agg #[.int .u8 (xm.a.toNat : Int), .int .u8 (xm.b.toNat : Int), .int .u8 (xm.c.toNat : Int), .int .u8 (xm.d.toNat : Int), .int .u8 (xm.e.toNat : Int), .int .u8 (xm.f.toNat : Int)]) (.agg #[.int .u8 (m.a.toNat : Int), .int .u8 (m.b.toNat : Int), .int .u8 (m.c.toNat : Int), .int .u8 (m.d.toNat : Int), .int .u8 (m.e.toNat : Int), .int .u8 (m.f.toNat : Int)])).run Try.prog W = .ok (.bool b2) W := fun W => by have h_ := eqm_b xm m W; rw [H2.out] at h_; exact h_
  rcases b2 with _ | _
  rotate_left
  · go_wp2_with (first | ((with_reducible show wpList _ _ _ (⟨some 3, _, _, _, _, _⟩ :: _) _ _); refine wpList_box_n rfl 32 (.tmp 1) rfl #[.int .u8 (m.a.toNat : Int), .int .u8 (m.b.toNat : Int), .int .u8 (m.c.toNat : Int), .int .u8 (m.d.toNat : Int), .int .u8 (m.e.toNat : Int), .int .u8 (m.f.toNat : Int)] rfl ?_; intro g3 w1 ge lt hh bb; have av_en_mb := en.av_new ge; have omb := Nat.le_trans bel.size ge; replace en := en.below bb; replace bel := bel.trans (bb.mono bel.size); have hmb := hh; clear hh lt ge bb; have R9 := Sle.zcell en HX.out 12 _ rfl))
    try clear R9
    replace bel := bel.drew
    replace hmb : w1.drew.heap[g3]? = _ := hmb
    replace en := en.drew
    refine wp_region_held_drew (S := fun W => W.heap[g3]? = some (.cells #[.int .u8 (m.a.toNat : Int), .int .u8 (m.b.toNat : Int), .int .u8 (m.c.toNat : Int), .int .u8 (m.d.toNat : Int), .int .u8 (m.e.toNat : Int), .int .u8 (m.f.toNat : Int)] 32 (0, 0)) ∧ Sle slE 15 W (some ⟨gE, 0, none⟩) (n) (c) (l)) (by kernel_rfl) ⟨hmb, en⟩ (fun hH => ?_)
    generalize w1.drew = w2 at bel hmb en hH ⊢
    refine wpAnyH_take (i := 0) (v := ?_) rfl (by kernel_rfl) (by kernel_rfl) (by kernel_rfl) (fun _ _ _ h => h) (Or.inl ⟨by rfl, ?_⟩) hH ?_
    rotate_left
    · ((intro W hW; clear hW; go_simp) <;> with_reducible rfl)
    simp only [Act.put, List.getElem_toArray, List.getElem_cons_zero, List.setIfInBounds_toArray, List.set_cons_zero, List.set_cons_succ]
    refine wpAnyH_take (i := 1) (v := ?_) rfl (by kernel_rfl) (by kernel_rfl) (by kernel_rfl) (fun _ _ _ h => h) (Or.inl ⟨by rfl, ?_⟩) hH ?_
    rotate_left
    · ((intro W hW; clear hW; go_simp) <;> with_reducible rfl)
    simp only [sq3, sq4]
    refine wpAnyH_take (i := 2) (v := ?_) rfl (by kernel_rfl) (by kernel_rfl) (by kernel_rfl) (fun _ _ _ h => h) (Or.inl ⟨by rfl, ?_⟩) hH ?_
    rotate_left
    · ((intro W hW; clear hW; go_simp) <;> with_reducible rfl)
    simp only [sq3, sq4]
    refine wpAnyH_take (i := 3) (v := ?_) rfl (by kernel_rfl) (by kernel_rfl) (by kernel_rfl) (fun _ _ _ h => h) (Or.inl ⟨by rfl, ?_⟩) hH ?_
    rotate_left
    · ((intro W hW; clear hW; go_simp) <;> with_reducible rfl)
    simp only [sq3, sq4]
    refine wpAnyH_take (i := 4) (v := .agg #[.int .u8 (xm.a.toNat : Int), .int .u8 (xm.b.toNat : Int), .int .u8 (xm.c.toNat : Int), .int .u8 (xm.d.toNat : Int), .int .u8 (xm.e.toNat : Int), .int .u8 (xm.f.toNat : Int)]) rfl (by kernel_rfl) (by kernel_rfl) (by kernel_rfl) (fun _ _ _ h => h) (yieldsIf_load_mid (by kernel_rfl) 32 _ rfl gE (i * 15) rfl [.int .u8 (xm.a.toNat : Int), .int .u8 (xm.b.toNat : Int), .int .u8 (xm.c.toNat : Int), .int .u8 (xm.d.toNat : Int), .int .u8 (xm.e.toNat : Int), .int .u8 (xm.f.toNat : Int)] _ (fun W hW => Sle.zrange0 (hW.2) HX.out 6 [.int .u8 (xm.a.toNat : Int), .int .u8 (xm.b.toNat : Int), .int .u8 (xm.c.toNat : Int), .int .u8 (xm.d.toNat : Int), .int .u8 (xm.e.toNat : Int), .int .u8 (xm.f.toNat : Int)] rfl) Try.underlying32 rfl (by kernel_rfl)) hH ?_
    simp only [sq3, sq4]
    refine wpAnyH_take (i := 5) (v := .agg #[.int .u8 (m.a.toNat : Int), .int .u8 (m.b.toNat : Int), .int .u8 (m.c.toNat : Int), .int .u8 (m.d.toNat : Int), .int .u8 (m.e.toNat : Int), .int .u8 (m.f.toNat : Int)]) rfl (by kernel_rfl) (by kernel_rfl) (by kernel_rfl) (fun _ _ _ h => h) (yieldsIf_load_part (by kernel_rfl) 32 _ rfl g3 0 6 rfl _ 32 (0, 0) (fun W hW => hW.1) _ rfl _ Try.underlying32 rfl (by kernel_rfl)) hH ?_
    simp only [sq3, sq4]
    refine wpAnyH_take (i := 6) (v := ?_) rfl (by kernel_rfl) (by kernel_rfl) (by kernel_rfl) (fun _ _ _ h => h) (Or.inl ⟨by rfl, ?_⟩) hH ?_
    rotate_left
    · ((intro W hW; clear hW; go_simp) <;> with_reducible rfl)
    simp only [sq3, sq4]
    refine wpAnyH_take (i := 7) (v := ?_) rfl (by kernel_rfl) (by kernel_rfl) (by kernel_rfl) (fun _ _ _ h => h) (Or.inl ⟨by rfl, ?_⟩) hH ?_
    rotate_left
    · ((intro W hW; clear hW; go_simp) <;> with_reducible rfl)
    simp only [sq3, sq4]
    refine wpAnyH_done (by kernel_rfl) ?_ _
    go_wp2_with fail
    go_ret
    exact ⟨by rw [← hb]; unfold Sd.rank; simp only [if_true, H2.out]; rfl, bel⟩
  go_wp2_with (first | ((with_reducible show wpList _ _ _ (⟨some 3, _, _, _, _, _⟩ :: _) _ _); refine wpList_box_n rfl 32 (.tmp 1) rfl #[.int .u8 (m.a.toNat : Int), .int .u8 (m.b.toNat : Int), .int .u8 (m.c.toNat : Int), .int .u8 (m.d.toNat : Int), .int .u8 (m.e.toNat : Int), .int .u8 (m.f.toNat : Int)] rfl ?_; intro g3 w1 ge lt hh bb; have av_en_mb := en.av_new ge; have omb := Nat.le_trans bel.size ge; replace en := en.below bb; replace bel := bel.trans (bb.mono bel.size); have hmb := hh; clear hh lt ge bb; have R9 := Sle.zcell en HX.out 12 _ rfl))
  try clear R9
  replace bel := bel.drew
  replace hmb : w1.drew.heap[g3]? = _ := hmb
  replace en := en.drew
  refine wp_region_held_drew (S := fun W => W.heap[g3]? = some (.cells #[.int .u8 (m.a.toNat : Int), .int .u8 (m.b.toNat : Int), .int .u8 (m.c.toNat : Int), .int .u8 (m.d.toNat : Int), .int .u8 (m.e.toNat : Int), .int .u8 (m.f.toNat : Int)] 32 (0, 0)) ∧ Sle slE 15 W (some ⟨gE, 0, none⟩) (n) (c) (l)) (by kernel_rfl) ⟨hmb, en⟩ (fun hH => ?_)
  generalize w1.drew = w2 at bel hmb en hH ⊢
  refine wpAnyH_take (i := 0) (v := ?_) rfl (by kernel_rfl) (by kernel_rfl) (by kernel_rfl) (fun _ _ _ h => h) (Or.inl ⟨by rfl, ?_⟩) hH ?_
  rotate_left
  · ((intro W hW; clear hW; go_simp) <;> with_reducible rfl)
  simp only [Act.put, List.getElem_toArray, List.getElem_cons_zero, List.setIfInBounds_toArray, List.set_cons_zero, List.set_cons_succ]
  refine wpAnyH_take (i := 1) (v := ?_) rfl (by kernel_rfl) (by kernel_rfl) (by kernel_rfl) (fun _ _ _ h => h) (Or.inl ⟨by rfl, ?_⟩) hH ?_
  rotate_left
  · ((intro W hW; clear hW; go_simp) <;> with_reducible rfl)
  simp only [sq3, sq4]
  refine wpAnyH_take (i := 2) (v := ?_) rfl (by kernel_rfl) (by kernel_rfl) (by kernel_rfl) (fun _ _ _ h => h) (Or.inl ⟨by rfl, ?_⟩) hH ?_
  rotate_left
  · ((intro W hW; clear hW; go_simp) <;> with_reducible rfl)
  simp only [sq3, sq4]
  refine wpAnyH_take (i := 3) (v := ?_) rfl (by kernel_rfl) (by kernel_rfl) (by kernel_rfl) (fun _ _ _ h => h) (Or.inl ⟨by rfl, ?_⟩) hH ?_
  rotate_left
  · ((intro W hW; clear hW; go_simp) <;> with_reducible rfl)
  simp only [sq3, sq4]
  refine wpAnyH_take (i := 4) (v := .agg #[.int .u8 (xm.a.toNat : Int), .int .u8 (xm.b.toNat : Int), .int .u8 (xm.c.toNat : Int), .int .u8 (xm.d.toNat : Int), .int .u8 (xm.e.toNat : Int), .int .u8 (xm.f.toNat : Int)]) rfl (by kernel_rfl) (by kernel_rfl) (by kernel_rfl) (fun _ _ _ h => h) (yieldsIf_load_mid (by kernel_rfl) 32 _ rfl gE (i * 15) rfl [.int .u8 (xm.a.toNat : Int), .int .u8 (xm.b.toNat : Int), .int .u8 (xm.c.toNat : Int), .int .u8 (xm.d.toNat : Int), .int .u8 (xm.e.toNat : Int), .int .u8 (xm.f.toNat : Int)] _ (fun W hW => Sle.zrange0 (hW.2) HX.out 6 [.int .u8 (xm.a.toNat : Int), .int .u8 (xm.b.toNat : Int), .int .u8 (xm.c.toNat : Int), .int .u8 (xm.d.toNat : Int), .int .u8 (xm.e.toNat : Int), .int .u8 (xm.f.toNat : Int)] rfl) Try.underlying32 rfl (by kernel_rfl)) hH ?_
  simp only [sq3, sq4]
  refine wpAnyH_take (i := 5) (v := .agg #[.int .u8 (m.a.toNat : Int), .int .u8 (m.b.toNat : Int), .int .u8 (m.c.toNat : Int), .int .u8 (m.d.toNat : Int), .int .u8 (m.e.toNat : Int), .int .u8 (m.f.toNat : Int)]) rfl (by kernel_rfl) (by kernel_rfl) (by kernel_rfl) (fun _ _ _ h => h) (yieldsIf_load_part (by kernel_rfl) 32 _ rfl g3 0 6 rfl _ 32 (0, 0) (fun W hW => hW.1) _ rfl _ Try.underlying32 rfl (by kernel_rfl)) hH ?_
  simp only [sq3, sq4]
  refine wpAnyH_take (i := 6) (v := ?_) rfl (by kernel_rfl) (by kernel_rfl) (by kernel_rfl) (fun _ _ _ h => h) (Or.inl ⟨by rfl, ?_⟩) hH ?_
  rotate_left
  · ((intro W hW; clear hW; go_simp) <;> with_reducible rfl)
  simp only [sq3, sq4]
  refine wpAnyH_take (i := 7) (v := ?_) rfl (by kernel_rfl) (by kernel_rfl) (by kernel_rfl) (fun _ _ _ h => h) (Or.inl ⟨by rfl, ?_⟩) hH ?_
  rotate_left
  · ((intro W hW; clear hW; go_simp) <;> with_reducible rfl)
  simp only [sq3, sq4]
  refine wpAnyH_done (by kernel_rfl) ?_ _
  have R23 := Sle.zcell en HX.out 10 _ rfl
  go_wp2_with fail
  clear R23
  go_ret
  exact ⟨by rw [← hb]; unfold Sd.rank; simp only [if_true, H2.out, Bool.false_eq_true, if_false]; rfl, bel⟩
set_option linter.unusedVariables false in
set_option linter.unusedSimpArgs false in
set_option maxRecDepth 100000 in
set_option maxHeartbeats 16000000 in
theorem perm_any {secs : Int} {b : Bool} (w : World) (hb : permB secs = b) : Calls Try.prog 68 #[.int .i64 secs] w fun e w' => e = .returned (.bool b) ∧ w = w' := by
  skip
  go_enter Try.func68, Try.ntmps68
  by_cases h1 : 1 ≤ secs
  · go_wp2_with fail
    go_ret
    exact ⟨by rw [← hb]; unfold permB; rw [decide_eq_true h1, Bool.true_and]; rfl, rfl⟩
  have h1d : decide (1 ≤ secs) = false := decide_eq_false h1
  go_wp2_with fail
  go_ret
  exact ⟨by rw [← hb]; unfold permB; rw [h1d, Bool.false_and]; rfl, rfl⟩
set_option linter.unusedVariables false in
set_option linter.unusedSimpArgs false in
set_option maxRecDepth 100000 in
set_option maxHeartbeats 16000000 in
theorem padv_yes {gt lo mb : Nat} {now : Int} {A : Option Addr} {n c : Nat} (t : Int) (w : World) (htb : w.heap[gt]? = some (.cells #[.int .i64 now, .map (some mb), .slice A n c] 84 (0, 0))) (otb : lo ≤ gt) (hlo : lo ≤ w.heap.size) (h1 : now < t) (h2 : t ≤ 1099511627776) : Calls Try.prog 52 #[.pointer (some ⟨gt, 0, none⟩), .int .i64 t] w fun e w' => e = .returned (.tuple #[]) ∧ w'.heap[gt]? = some (.cells #[.int .i64 (padv now t), .map (some mb), .slice A n c] 84 (0, 0)) ∧ w.grownBy w' (some gt) := by
  have HA : Hid (padv now t = t) := Lib.hid (by unfold padv; rw [if_pos ⟨h1, h2⟩])
  have gk := World.grownBy.refl w (some gt)
  have bel := Below.refl lo w
  go_enter Try.func52, Try.ntmps52
  have R8 := cell_lit htb 0 _ rfl
  go_wp2_with (first | ((with_reducible show wpList _ _ _ (⟨none, Op.store _ (.tmp 17) _, _, _, _, _⟩ :: _) _ _); refine wpList_store_part rfl 2 (.tmp 17) (.tmp 15) rfl gt 0 rfl [.int .i64 t] rfl [.int .i64 now, .map (some mb), .slice A n c] 84 htb (by simp) [.int .i64 t, .map (some mb), .slice A n c] rfl (by kernel_rfl) (by rfl) ?_; intro w1 hq gr; replace gk := gk.trans gr; replace bel := below_grown bel gr otb (Nat.le_trans hlo bel.size); clear htb; have htb := hq; clear hq gr))
  try clear R8
  exact bodyPost_end (results_none rfl _ _ _) rfl ⟨rfl, by rw [HA.out]; exact htb, gk⟩
set_option linter.unusedVariables false in
set_option linter.unusedSimpArgs false in
set_option maxRecDepth 100000 in
set_option maxHeartbeats 16000000 in
theorem padv_no1 {gt lo mb : Nat} {now : Int} {A : Option Addr} {n c : Nat} (t : Int) (w : World) (htb : w.heap[gt]? = some (.cells #[.int .i64 now, .map (some mb), .slice A n c] 84 (0, 0))) (otb : lo ≤ gt) (hlo : lo ≤ w.heap.size) (h1 : ¬ now < t) : Calls Try.prog 52 #[.pointer (some ⟨gt, 0, none⟩), .int .i64 t] w fun e w' => e = .returned (.tuple #[]) ∧ w'.heap[gt]? = some (.cells #[.int .i64 (padv now t), .map (some mb), .slice A n c] 84 (0, 0)) ∧ w.grownBy w' (some gt) := by
  have HA : Hid (padv now t = now) := Lib.hid (by unfold padv; rw [if_neg (by omega)])
  replace h1 : decide (now < t) = false := by simpa using h1
  have gk := World.grownBy.refl w (some gt)
  have bel := Below.refl lo w
  go_enter Try.func52, Try.ntmps52
  have R8 := cell_lit htb 0 _ rfl
  go_wp2_with fail
  clear R8
  exact bodyPost_end (results_none rfl _ _ _) rfl ⟨rfl, by rw [HA.out]; exact htb, gk⟩
set_option linter.unusedVariables false in
set_option linter.unusedSimpArgs false in
set_option maxRecDepth 100000 in
set_option maxHeartbeats 16000000 in
theorem padv_no2 {gt lo mb : Nat} {now : Int} {A : Option Addr} {n c : Nat} (t : Int) (w : World) (htb : w.heap[gt]? = some (.cells #[.int .i64 now, .map (some mb), .slice A n c] 84 (0, 0))) (otb : lo ≤ gt) (hlo : lo ≤ w.heap.size) (h1 : now < t) (h2 : ¬ t ≤ 1099511627776) : Calls Try.prog 52 #[.pointer (some ⟨gt, 0, none⟩), .int .i64 t] w fun e w' => e = .returned (.tuple #[]) ∧ w'.heap[gt]? = some (.cells #[.int .i64 (padv now t), .map (some mb), .slice A n c] 84 (0, 0)) ∧ w.grownBy w' (some gt) := by
  have HA : Hid (padv now t = now) := Lib.hid (by unfold padv; rw [if_neg (by omega)])
  replace h2 : decide (t ≤ 1099511627776) = false := by simpa using h2
  have gk := World.grownBy.refl w (some gt)
  have bel := Below.refl lo w
  go_enter Try.func52, Try.ntmps52
  have R8 := cell_lit htb 0 _ rfl
  go_wp2_with fail
  clear R8
  exact bodyPost_end (results_none rfl _ _ _) rfl ⟨rfl, by rw [HA.out]; exact htb, gk⟩
theorem padv_any {gt mb : Nat} {now : Int} {A : Option Addr} {n c : Nat} (t : Int) (w : World) (htb : w.heap[gt]? = some (.cells #[.int .i64 now, .map (some mb), .slice A n c] 84 (0, 0))) : Calls Try.prog 52 #[.pointer (some ⟨gt, 0, none⟩), .int .i64 t] w fun e w' => e = .returned (.tuple #[]) ∧ w'.heap[gt]? = some (.cells #[.int .i64 (padv now t), .map (some mb), .slice A n c] 84 (0, 0)) ∧ w.grownBy w' (some gt) := by
  by_cases h1 : now < t
  · by_cases h2 : t ≤ 1099511627776
    · exact padv_yes t w htb (Nat.zero_le _) (Nat.zero_le _) h1 h2
    · exact padv_no2 t w htb (Nat.zero_le _) (Nat.zero_le _) h1 h2
  · exact padv_no1 t w htb (Nat.zero_le _) (Nat.zero_le _) h1
end Go.Proofs.Ytapdmlfjohiekaa
