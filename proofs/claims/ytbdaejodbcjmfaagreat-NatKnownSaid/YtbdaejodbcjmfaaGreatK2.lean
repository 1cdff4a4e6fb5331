/- Texts put together: Pt0, Pt1. -/
import Derived.Test.YtbdaejodbcjmfaaGreatK1
import Derived.Laws.ResultCell
import Derived.IntWalk
import Derived.Deep.CutRange
import Derived.DeepKeys4
import Derived.Stop.BytesEq
namespace Go.Proofs.YtbdaejodbcjmfaaGreat
open Go.RowKit
set_option linter.unusedVariables false
set_option linter.unusedSimpArgs false
set_option maxRecDepth 100000
set_option maxHeartbeats 16000000

/-- A mapping. -/
structure Mp where
 pr : Int
 o : Int
 ad : Ad4
 i : Int
 k : Int
 u : Int
def mpE (e : Mp) : List Value := [.int .i64 e.pr, .int .i64 e.o, .int .u8 (e.ad.a.toNat : Int), .int .u8 (e.ad.b.toNat : Int), .int .u8 (e.ad.c.toNat : Int), .int .u8 (e.ad.d.toNat : Int), .int .i64 e.i, .int .i64 e.k, .int .i64 e.u]
theorem mpE_len (e : Mp) : (mpE e).length = 9 := rfl
theorem mpE_one (e : Mp) : ∀ u ∈ mpE e, u.oneCell' = true := by
 intro u hu
 simp only [mpE, List.mem_cons, List.not_mem_nil, or_false] at hu
 rcases hu with h | h | h | h | h | h | h | h | h <;> rw [h] <;> rfl
/-- A port of a protocol as one number. -/
def kn (p o : Int) : Nat := (p * 65536 + o).toNat
def Mp.num (e : Mp) : Nat := kn e.pr e.o
def okP (p o : Int) : Prop := 0 ≤ p ∧ p ≤ 255 ∧ 0 ≤ o ∧ o ≤ 65535
def Mp.okp (e : Mp) : Prop := okP e.pr e.o
theorem kn_inj {p o q r : Int} (h : okP p o) (h' : okP q r) (e : kn p o = kn q r) : p = q ∧ o = r := by
 obtain ⟨h1, h2, h3, h4⟩ := h
 obtain ⟨g1, g2, g3, g4⟩ := h'
 unfold kn at e
 constructor <;> omega
def cmpN (x y : Nat) : Int := if x < y then -1 else if y < x then 1 else 0
theorem cmpN_lt (x y : Nat) : decide (cmpN x y < 0) = decide (x < y) := by
 unfold cmpN
 by_cases h : x < y
 ·simp [h]
 ·by_cases h2 : y < x <;> simp [h, h2]
theorem cmpN_eq (x y : Nat) : (cmpN x y == 0) = (x == y) := by
 unfold cmpN
 rcases Nat.lt_trichotomy x y with h | h | h
 ·rw [if_pos h]; simp; omega
 ·subst h; simp
 ·rw [if_neg (by omega), if_pos h]; simp; omega
def cmpP (p o q r : Int) : Int := if p < q then -1 else if q < p then 1 else if o < r then -1 else if r < o then 1 else 0
theorem cmpP_num {p o q r : Int} (h : okP p o) (h' : okP q r) : cmpP p o q r = cmpN (kn p o) (kn q r) := by
 obtain ⟨h1, h2, h3, h4⟩ := h
 obtain ⟨g1, g2, g3, g4⟩ := h'
 unfold cmpP cmpN kn
 by_cases a : p < q
 ·rw [if_pos a, if_pos (by omega)]
 ·rw [if_neg a]
  by_cases b : q < p
  ·rw [if_pos b, if_neg (by omega), if_pos (by omega)]
  ·rw [if_neg b]
   by_cases c : o < r
   ·rw [if_pos c, if_pos (by omega)]
   ·rw [if_neg c]
    by_cases d : r < o
    ·rw [if_pos d, if_neg (by omega), if_pos (by omega)]
    ·rw [if_neg d, if_neg (by omega), if_neg (by omega)]
/-- Ascending. -/
def MSrt (l : List Mp) : Prop := l.Pairwise (fun x y => x.num < y.num)
/-- Where an address stands, or would stand; does it stand there? -/
def mfpos (l : List Mp) (x : Nat) : Nat := l.countP (fun e => decide (e.num < x))
def mfhas (l : List Mp) (x : Nat) : Bool := match l[mfpos l x]? with
 | some e => e.num == x
 | none => false
theorem mfpos_le (l : List Mp) (x : Nat) : mfpos l x ≤ l.length := List.countP_le_length
theorem mfpos_of {l : List Mp} {x i : Nat} (hi : i ≤ l.length) (h1 : ∀ j e, j < i → l[j]? = some e → e.num < x) (h2 : ∀ j e, i ≤ j → l[j]? = some e → x ≤ e.num) : mfpos l x = i := by
 unfold mfpos
 have e : l = l.take i ++ l.drop i := (List.take_append_drop i l).symm
 rw [e, List.countP_append]
 have a1 : (l.take i).countP (fun e => decide (e.num < x)) = i := by
  have : (l.take i).countP (fun e => decide (e.num < x)) = (l.take i).length := by
   rw [List.countP_eq_length]
   intro y hy
   obtain ⟨j, hj⟩ := List.getElem?_of_mem hy
   rw [List.getElem?_take] at hj
   split at hj
   ·simpa using h1 j y ‹_› hj
   ·cases hj
  rw [this, List.length_take]; omega
 have a2 : (l.drop i).countP (fun e => decide (e.num < x)) = 0 := by
  rw [List.countP_eq_zero]
  intro y hy
  obtain ⟨j, hj⟩ := List.getElem?_of_mem hy
  rw [List.getElem?_drop] at hj
  have := h2 (i + j) y (by omega) hj
  simp; omega
 rw [a1, a2, Nat.add_zero]
theorem MSrt.lt {l : List Mp} (h : MSrt l) {i j : Nat} {x y : Mp} (hij : i < j) (hx : l[i]? = some x) (hy : l[j]? = some y) : x.num < y.num := by
 obtain ⟨h1, e1⟩ := List.getElem?_eq_some_iff.1 hx
 obtain ⟨h2, e2⟩ := List.getElem?_eq_some_iff.1 hy
 have := List.pairwise_iff_getElem.1 h i j h1 h2 hij
 rw [e1, e2] at this
 exact this
theorem MSrt.before {l : List Mp} (h : MSrt l) {x j : Nat} {e : Mp} (hj : j < mfpos l x) (he : l[j]? = some e) : e.num < x := by
 rcases Nat.lt_or_ge e.num x with h1 | h1
 ·exact h1
 ·exfalso
  -- all from j on are not below x
  have hl := (List.getElem?_eq_some_iff.1 he).1
  have e2 : l = l.take j ++ l.drop j := (List.take_append_drop j l).symm
  have a2 : (l.drop j).countP (fun e => decide (e.num < x)) = 0 := by
   rw [List.countP_eq_zero]
   intro y hy
   obtain ⟨i, hi⟩ := List.getElem?_of_mem hy
   rw [List.getElem?_drop] at hi
   rcases Nat.eq_zero_or_pos i with h0 | h0
   ·subst h0
    rw [Nat.add_zero, he] at hi
    cases hi
    simp; omega
   ·have := h.lt (by omega : j < j + i) he hi
    simp; omega
  have a1 : (l.take j).countP (fun e => decide (e.num < x)) ≤ j := by
   have := List.countP_le_length (p := fun e => decide (Mp.num e < x)) (l := l.take j)
   rw [List.length_take] at this; omega
  have : mfpos l x ≤ j := by
   unfold mfpos
   rw [e2, List.countP_append, a2]; omega
  omega
theorem MSrt.after {l : List Mp} (h : MSrt l) {x j : Nat} {e : Mp} (hj : mfpos l x ≤ j) (he : l[j]? = some e) : x ≤ e.num := by
 rcases Nat.lt_or_ge e.num x with h1 | h1
 ·exfalso
  have hl := (List.getElem?_eq_some_iff.1 he).1
  have e2 : l = l.take (j + 1) ++ l.drop (j + 1) := (List.take_append_drop (j + 1) l).symm
  have a1 : (l.take (j + 1)).countP (fun e => decide (e.num < x)) = j + 1 := by
   have : (l.take (j + 1)).countP (fun e => decide (e.num < x)) = (l.take (j + 1)).length := by
    rw [List.countP_eq_length]
    intro y hy
    obtain ⟨i, hi⟩ := List.getElem?_of_mem hy
    rw [List.getElem?_take] at hi
    split at hi
    ·rcases Nat.lt_or_ge i j with h0 | h0
     ·have := h.lt h0 hi he
      simp; omega
     ·obtain rfl : i = j := by omega
      rw [he] at hi
      cases hi
      simpa using h1
    ·cases hi
   rw [this, List.length_take]; omega
  have : j + 1 ≤ mfpos l x := by
   unfold mfpos
   rw [e2, List.countP_append, a1]; omega
  omega
 ·exact h1
theorem mfhas_true {l : List Mp} {x : Nat} (h : mfhas l x = true) : ∃ e, l[mfpos l x]? = some e ∧ e.num = x := by
 unfold mfhas at h
 cases he : l[mfpos l x]? with
 | none => rw [he] at h; cases h
 | some e => rw [he] at h; exact ⟨e, rfl, by simpa using h⟩
theorem MSrt.found {l : List Mp} (h : MSrt l) {x j : Nat} {e : Mp} (he : l[j]? = some e) (hx : e.num = x) : mfpos l x = j ∧ mfhas l x = true := by
 have hp : mfpos l x = j := by
  apply mfpos_of
  ·have := (List.getElem?_eq_some_iff.1 he).1; omega
  ·intro i y hi hy
   have := h.lt hi hy he; omega
  ·intro i y hi hy
   rcases Nat.lt_or_ge j i with h0 | h0
   ·have := h.lt h0 he hy; omega
   ·obtain rfl : i = j := by omega
    rw [he] at hy; cases hy; omega
 refine ⟨hp, ?_⟩
 unfold mfhas
 rw [hp, he]
 simpa using hx
theorem MSrt.none {l : List Mp} {x : Nat} (hx : ∀ e ∈ l, e.num ≠ x) : mfhas l x = false := by
 cases hb : mfhas l x with
 | false => rfl
 | true =>
  obtain ⟨e, he, hn⟩ := mfhas_true hb
  exact absurd hn (hx e (List.mem_of_getElem? he))
/-- An entry is laid in its place. -/
def mins (l : List Mp) (e : Mp) : List Mp := l.take (mfpos l e.num) ++ e :: l.drop (mfpos l e.num)
theorem mins_len (l : List Mp) (e : Mp) : (mins l e).length = l.length + 1 := by
 have := mfpos_le l e.num
 unfold mins
 simp; omega
theorem MSrt.insd {l : List Mp} (h : MSrt l) {e : Mp} (hn : mfhas l e.num = false) : MSrt (mins l e) := by
 unfold mins MSrt
 rw [List.pairwise_append, List.pairwise_cons]
 have hne : ∀ y, l[mfpos l e.num]? = some y → y.num ≠ e.num := fun y hy heq => by
  unfold mfhas at hn
  rw [hy] at hn
  simp at hn
  exact hn heq
 have hgt : ∀ y ∈ l.drop (mfpos l e.num), e.num < y.num := by
  intro y hy
  obtain ⟨i, hi⟩ := List.getElem?_of_mem hy
  rw [List.getElem?_drop] at hi
  have h1 := h.after (Nat.le_add_right _ i) hi
  rcases Nat.eq_zero_or_pos i with h0 | h0
  ·subst h0
   rw [Nat.add_zero] at hi
   have := hne y hi; omega
  ·have hp : mfpos l e.num < l.length := by have := (List.getElem?_eq_some_iff.1 hi).1; omega
   have h2 := h.lt (by omega : mfpos l e.num < mfpos l e.num + i) (List.getElem?_eq_getElem hp) hi
   have h3 := h.after (Nat.le_refl _) (List.getElem?_eq_getElem hp)
   omega
 have hlt : ∀ y ∈ l.take (mfpos l e.num), y.num < e.num := by
  intro y hy
  obtain ⟨i, hi⟩ := List.getElem?_of_mem hy
  rw [List.getElem?_take] at hi
  split at hi
  ·exact h.before ‹_› hi
  ·cases hi
 refine ⟨List.Pairwise.sublist (List.take_sublist _ _) h, ⟨hgt, List.Pairwise.sublist (List.drop_sublist _ _) h⟩, ?_⟩
 intro y hy z hz
 have h1 := hlt y hy
 rcases List.mem_cons.1 hz with rfl | hz
 ·exact h1
 ·have := hgt z hz; omega
theorem mins_mem {l : List Mp} {e x : Mp} (h : x ∈ mins l e) : x = e ∨ x ∈ l := by
 unfold mins at h
 rcases List.mem_append.1 h with h | h
 ·exact .inr (List.mem_of_mem_take h)
 ·rcases List.mem_cons.1 h with h | h
  ·exact .inl h
  ·exact .inr (List.mem_of_mem_drop h)
theorem MSrt.set {l : List Mp} (h : MSrt l) {i : Nat} {x y : Mp} (hx : l[i]? = some x) (hy : y.num = x.num) : MSrt (l.set i y) := by
 unfold MSrt
 rw [List.pairwise_iff_getElem]
 intro a b ha hb hab
 rw [List.length_set] at ha hb
 have e : ∀ c (hc : c < l.length), ((l.set i y)[c]'(by rw [List.length_set]; exact hc)).num = (l[c]).num := fun c hc => by
  rw [List.getElem_set]
  split
  ·rename_i hic
   subst hic
   rw [hy]
   rw [List.getElem?_eq_getElem hc] at hx
   cases hx; rfl
  ·rfl
 rw [e a ha, e b hb]
 exact List.pairwise_iff_getElem.1 h a b ha hb hab
/-- All ahead of i lie below x; all from j on do not. -/
def MBsLo (l : List Mp) (i x : Nat) : Prop := ∀ q e, q < i → l[q]? = some e → e.num < x
def MBsHi (l : List Mp) (j x : Nat) : Prop := ∀ q e, j ≤ q → l[q]? = some e → x ≤ e.num
theorem mbsLo_zero (l : List Mp) (x : Nat) : MBsLo l 0 x := fun _ _ h => absurd h (by omega)
theorem mbsHi_len (l : List Mp) (x : Nat) : MBsHi l l.length x := fun q e h he => by have := (List.getElem?_eq_some_iff.1 he).1; omega
theorem MBsLo.step {l : List Mp} (hs : MSrt l) {q x : Nat} {e : Mp} (he : l[q]? = some e) (h : e.num < x) : MBsLo l (q + 1) x := fun i y hi hy => by
 rcases Nat.lt_or_ge i q with h0 | h0
 ·have := hs.lt h0 hy he; omega
 ·obtain rfl : i = q := by omega
  rw [he] at hy; cases hy; exact h
theorem MBsHi.step {l : List Mp} (hs : MSrt l) {q x : Nat} {e : Mp} (he : l[q]? = some e) (h : x ≤ e.num) : MBsHi l q x := fun i y hi hy => by
 rcases Nat.lt_or_ge q i with h0 | h0
 ·have := hs.lt h0 he hy; omega
 ·obtain rfl : i = q := by omega
  rw [he] at hy; cases hy; exact h
theorem mbs_at {l : List Mp} {i x : Nat} (hi : i ≤ l.length) (h1 : MBsLo l i x) (h2 : MBsHi l i x) : mfpos l x = i := mfpos_of hi h1 h2
def portB (p n : Int) : Bool := if p = 1 then decide (0 ≤ n) && decide (n ≤ 65535) else if p = 6 ∨ p = 17 then decide (1 ≤ n) && decide (n ≤ 65535) else false
theorem portB_ok {p n : Int} (h : portB p n = true) : okP p n := by
 unfold portB at h
 unfold okP
 split at h
 ·simp at h; omega
 ·split at h
  ·simp at h; omega
  ·cases h
def secsB (s : Int) : Bool := decide (1 ≤ s) && decide (s ≤ 1000000000)
def liveB (now : Int) (m : Mp) : Bool := (m.k == 4) || decide (now < m.u)
def forB (pr : Int) (ad : Ad4) (p : Int) (m : Mp) : Bool := (m.pr == pr) && (m.ad.eqB ad && (m.i == p))
def Mp.rank (m : Mp) : Int := if m.k = 4 then 0 else m.k
/-- Those that are over: one for each port. -/
def oput (os : List Mp) (m : Mp) : List Mp := if os.any (fun e => e.num == m.num) = true then os.map (fun e => if e.num = m.num then m else e) else os ++ [m]
def odel (os : List Mp) (x : Nat) : List Mp := os.filter (fun e => !(e.num == x))
structure OsOk (os : List Mp) : Prop where
 okp : ∀ e ∈ os, e.okp
 nd : os.Pairwise (fun x y => x.num ≠ y.num)
theorem OsOk.nil : OsOk [] := ⟨fun e h => (by cases h), List.Pairwise.nil⟩
theorem OsOk.del {os : List Mp} (h : OsOk os) (x : Nat) : OsOk (odel os x) := ⟨fun e he => h.okp e (List.mem_filter.1 he).1, h.nd.filter _⟩
theorem OsOk.put {os : List Mp} (h : OsOk os) {m : Mp} (hm : m.okp) : OsOk (oput os m) := by
 unfold oput
 split
 ·refine ⟨fun e he => ?_, ?_⟩
  ·obtain ⟨x, hx, rfl⟩ := List.mem_map.1 he
   split
   ·exact hm
   ·exact h.okp x hx
  ·rw [List.pairwise_map]
   refine h.nd.imp fun {x y} hxy => ?_
   split
   ·rename_i h1
    split
    ·rename_i h2; omega
    ·rename_i h2; exact fun e => h2 e.symm
   ·split
    ·rename_i h1 h2; exact fun e => h1 (e.trans rfl)
    ·exact hxy
 ·rename_i hn
  refine ⟨fun e he => ?_, ?_⟩
  ·rcases List.mem_append.1 he with he | he
   ·exact h.okp e he
   ·rw [List.mem_singleton.1 he]; exact hm
  ·rw [List.pairwise_append]
   refine ⟨h.nd, List.pairwise_singleton _ _, fun x hx y hy => ?_⟩
   rw [List.mem_singleton.1 hy]
   intro e
   exact hn (List.any_eq_true.2 ⟨x, hx, by simpa using e⟩)
/-- What a table holds: its least port, its room, its clock, what is live, what is over. -/
structure Ts where
 lw : Int
 rm : Int
 now : Int
 l : List Mp
 os : List Mp
def deadB (t : Int) (e : Mp) : Bool := !liveB t e
def overs (l : List Mp) (t : Int) (os : List Mp) : List Mp := (l.filter (deadB t)).foldl oput os
def advS (s : Ts) (t : Int) : Ts := { s with now := t, l := s.l.filter (liveB t), os := overs s.l t s.os }
def Ts.adv (s : Ts) (t : Int) : Ts := if s.now < t ∧ t ≤ 1099511627776 then advS s t else s
structure Ts.ok (s : Ts) : Prop where
 srt : MSrt s.l
 okp : ∀ e ∈ s.l, e.okp
 n0 : 0 ≤ s.now
 n1 : s.now ≤ 1099511627776
 l0 : 1024 ≤ s.lw
 l1 : s.lw ≤ 60000
 r0 : 1 ≤ s.rm
 r1 : s.rm ≤ 128
 len : (s.l.length : Int) ≤ s.rm
theorem Ts.ok.adv {s : Ts} (h : s.ok) (t : Int) : (s.adv t).ok := by
 unfold Ts.adv
 split
 ·rename_i hc
  obtain ⟨h1, h2⟩ := hc
  have hl : (s.l.filter (liveB t)).length ≤ s.l.length := List.length_filter_le _ _
  exact ⟨List.Pairwise.sublist List.filter_sublist h.srt, fun e he => h.okp e (List.mem_filter.1 he).1, by have := h.n0; show 0 ≤ t; omega, h2, h.l0, h.l1, h.r0, h.r1, by have := h.len; show ((s.l.filter (liveB t)).length : Int) ≤ s.rm; omega⟩
 ·exact h
theorem Ts.ok.set {s : Ts} (h : s.ok) {i : Nat} {x y : Mp} (hx : s.l[i]? = some x) (hy1 : y.pr = x.pr) (hy2 : y.o = x.o) : ({ s with l := s.l.set i y } : Ts).ok := by
 refine ⟨h.srt.set hx (by show kn y.pr y.o = kn x.pr x.o; rw [hy1, hy2]), fun e he => ?_, h.n0, h.n1, h.l0, h.l1, h.r0, h.r1, by show ((s.l.set i y).length : Int) ≤ s.rm; rw [List.length_set]; exact h.len⟩
 rcases List.mem_or_eq_of_mem_set he with h1 | h1
 ·exact h.okp e h1
 ·rw [h1]
  have := h.okp x (List.mem_of_getElem? hx)
  unfold Mp.okp at *
  rw [hy1, hy2]; exact this
theorem Ts.ok.ins {s : Ts} (h : s.ok) {m : Mp} (hm : m.okp) (hn : mfhas s.l m.num = false) (hr : (s.l.length : Int) < s.rm) (os : List Mp) : ({ s with l := mins s.l m, os := os } : Ts).ok := by
 refine ⟨h.srt.insd hn, fun e he => ?_, h.n0, h.n1, h.l0, h.l1, h.r0, h.r1, by show ((mins s.l m).length : Int) ≤ s.rm; rw [mins_len]; omega⟩
 rcases mins_mem he with h1 | h1
 ·rw [h1]; exact hm
 ·exact h.okp e h1
/-- Where a port stands that is there. -/
theorem mfhas_ex {l : List Mp} {x : Nat} (h : mfhas l x = true) : ∃ (i : Nat) (e : Mp), mfpos l x = i ∧ l[i]? = some e ∧ e.num = x := by
 obtain ⟨e, he, hn⟩ := mfhas_true h
 exact ⟨_, e, rfl, he, hn⟩
/-- Is one better for a flow than the best so far? -/
def betB (pr : Int) (ad : Ad4) (p : Int) (l : List Mp) (a : Option Nat) (e : Mp) : Bool := forB pr ad p e && (match a with
 | none => true
 | some i => match l[i]? with
  | none => false
  | some x => decide (e.rank < x.rank))
/-- The best one for a flow of the first j. -/
def bestF (pr : Int) (ad : Ad4) (p : Int) (l : List Mp) : Nat → Option Nat
 | 0 => none
 | j + 1 => match l[j]? with
  | none => bestF pr ad p l j
  | some e => if betB pr ad p l (bestF pr ad p l j) e = true then some j else bestF pr ad p l j
theorem bestF_lt (pr : Int) (ad : Ad4) (p : Int) (l : List Mp) : ∀ j i, j ≤ l.length → bestF pr ad p l j = some i → i < j := by
 intro j
 induction j with
 | zero => intro i _ h; cases h
 | succ j ih =>
  intro i hj h
  unfold bestF at h
  rw [List.getElem?_eq_getElem (by omega)] at h
  simp only at h
  by_cases hb : betB pr ad p l (bestF pr ad p l j) l[j] = true
  ·rw [if_pos hb] at h
   cases h; omega
  ·rw [if_neg hb] at h
   have := ih i (by omega) h; omega
open Go.RowKit

def cmpI (x y : Int) : Int := if x < y then -1 else if y < x then 1 else 0
def orI (a b : Int) : Int := if a = 0 then b else a
theorem cmpP_is (p o q r : Int) : cmpP p o q r = orI (cmpI p q) (cmpI o r) := by
 unfold cmpP cmpI orI
 by_cases a : p < q
 ·rw [if_pos a, if_pos a]; rfl
 ·rw [if_neg a, if_neg a]
  by_cases b : q < p
  ·rw [if_pos b, if_pos b]; rfl
  ·rw [if_neg b, if_neg b]; rfl
def adV (x : Ad4) : Value := .agg #[.int .u8 (x.a.toNat : Int), .int .u8 (x.b.toNat : Int), .int .u8 (x.c.toNat : Int), .int .u8 (x.d.toNat : Int)]
theorem eqa_b (x y : Ad4) (W : World) : (binOp .eql 35 (adV x) (adV y)).run Tryz.prog W = .ok (.bool (x.eqB y)) W :=
 run_eql_bytes (P := Tryz.prog) W 35 5 4 (by kernel_rfl) (by kernel_rfl) (fun w => by kernel_rfl) x.l y.l rfl rfl
theorem nea_b (x y : Ad4) (W : World) : (binOp .neq 35 (adV x) (adV y)).run Tryz.prog W = .ok (.bool (!x.eqB y)) W := by
 have h := run_equalIn_bytes (P := Tryz.prog) W 9998 35 5 4 (by kernel_rfl) (by kernel_rfl) (fun w => by kernel_rfl) x.l y.l rfl rfl
 show (binOp .neq 35 (.agg (x.l.map u8v).toArray) (.agg (y.l.map u8v).toArray)).run Tryz.prog W = _
 rw [run_neq_struct]
 have h2 : (Op.equalIn 10000 35 (.agg (x.l.map u8v).toArray) (.agg (y.l.map u8v).toArray)).run Tryz.prog W = .ok (x.l == y.l) W := h
 rw [h2]
 rfl
theorem nani_any (x : Int) (w : World)  : Calls Tryz.prog 143 #[.int .i64 x] w fun e w' => e = .returned (.bool false) ∧ w = w' := by
 skip
 go_enter Tryz.func143, Tryz.ntmps143
 go_wp2_with fail
 go_ret
 exact ⟨rfl, rfl⟩
theorem cmpi_lt (x y : Int) (w : World) (h : x < y) : Calls Tryz.prog 138 #[.int .i64 x, .int .i64 y] w fun e w' => e = .returned (.int .i64 (-1)) ∧ w = w' := by
 skip
 go_enter Tryz.func138, Tryz.ntmps138
 go_wp2_with fail
 with_reducible refine (nani_any x _).mono ?_
 rintro e _ ⟨rfl, rfl⟩
 go_wp2_with fail
 with_reducible refine (nani_any y _).mono ?_
 rintro e _ ⟨rfl, rfl⟩
 go_wp2_with fail
 go_ret
 exact ⟨rfl, rfl⟩
theorem cmpi_gt (x y : Int) (w : World) (h : y < x) : Calls Tryz.prog 138 #[.int .i64 x, .int .i64 y] w fun e w' => e = .returned (.int .i64 1) ∧ w = w' := by
 have h2 : decide (x < y) = false := decide_eq_false (by omega)
 have h3 : x > y := h
 skip
 go_enter Tryz.func138, Tryz.ntmps138
 go_wp2_with fail
 with_reducible refine (nani_any x _).mono ?_
 rintro e _ ⟨rfl, rfl⟩
 go_wp2_with fail
 with_reducible refine (nani_any y _).mono ?_
 rintro e _ ⟨rfl, rfl⟩
 go_wp2_with fail
 go_ret
 exact ⟨rfl, rfl⟩
theorem cmpi_eq (x y : Int) (w : World) (h : x = y) : Calls Tryz.prog 138 #[.int .i64 x, .int .i64 y] w fun e w' => e = .returned (.int .i64 0) ∧ w = w' := by
 subst h
 have h2 : decide (x < x) = false := decide_eq_false (by omega)
 have h3 : decide (x > x) = false := decide_eq_false (by omega)
 skip
 go_enter Tryz.func138, Tryz.ntmps138
 go_wp2_with fail
 with_reducible refine (nani_any x _).mono ?_
 rintro e _ ⟨rfl, rfl⟩
 go_wp2_with fail
 with_reducible refine (nani_any x _).mono ?_
 rintro e _ ⟨rfl, rfl⟩
 go_wp2_with fail
 go_ret
 exact ⟨rfl, rfl⟩
theorem cmpi_any (x y : Int) (w : World) : Calls Tryz.prog 138 #[.int .i64 x, .int .i64 y] w fun e w' => e = .returned (.int .i64 (cmpI x y)) ∧ w = w' := by
 unfold cmpI
 by_cases h1 : x < y
 ·rw [if_pos h1]; exact cmpi_lt x y w h1
 ·by_cases h2 : y < x
  ·rw [if_neg h1, if_pos h2]; exact cmpi_gt x y w h2
  ·rw [if_neg h1, if_neg h2]; exact cmpi_eq x y w (by omega)
theorem or_two (w : World) {g : Nat} {a b : Int} (hg : w.heap[g]? = some (.cells #[.int .i64 a, .int .i64 b] 3 (0, 0))) : w.cell? ⟨g, 0, none⟩ = some (.int .i64 a) ∧ w.cell? ⟨g, 1, none⟩ = some (.int .i64 b) ∧ w.frozen? ⟨g, 0, none⟩ = false ∧ w.frozen? ⟨g, 1, none⟩ = false := by
 simp [World.cell?, World.frozen?, hg]
theorem or_1 {g : Nat} {a b : Int} (w : World) (hg : w.heap[g]? = some (.cells #[.int .i64 a, .int .i64 b] 3 (0, 0))) (h : ¬ a = 0) : Calls Tryz.prog 137 #[.slice (some ⟨g, 0, none⟩) 2 2] w fun e w' => e = .returned (.int .i64 a) ∧ w = w' := by
 have hb : (a != 0) = true := by simpa using h
 obtain ⟨c0, c1, f0, f1⟩ := or_two w hg
 clear hg
 skip
 go_enter Tryz.func137, Tryz.ntmps137
 go_wp2_with fail
 refine wp_loop_rounds 4 ?_
 rw [rounds_succ]
 go_wp2_with fail
 go_ret
 exact ⟨rfl, rfl⟩
theorem or_2 {g : Nat} {a b : Int} (w : World) (hg : w.heap[g]? = some (.cells #[.int .i64 a, .int .i64 b] 3 (0, 0))) (h : a = 0) (h2 : ¬ b = 0) : Calls Tryz.prog 137 #[.slice (some ⟨g, 0, none⟩) 2 2] w fun e w' => e = .returned (.int .i64 b) ∧ w = w' := by
 subst h
 have hb : (b != 0) = true := by simpa using h2
 obtain ⟨c0, c1, f0, f1⟩ := or_two w hg
 clear hg
 skip
 go_enter Tryz.func137, Tryz.ntmps137
 go_wp2_with fail
 refine wp_loop_rounds 4 ?_
 rw [rounds_succ]
 go_wp2_with fail
 rw [rounds_succ]
 go_wp2_with fail
 go_ret
 exact ⟨rfl, rfl⟩
theorem or_3 {g : Nat} {a b : Int} (w : World) (hg : w.heap[g]? = some (.cells #[.int .i64 a, .int .i64 b] 3 (0, 0))) (h : a = 0) (h2 : b = 0) : Calls Tryz.prog 137 #[.slice (some ⟨g, 0, none⟩) 2 2] w fun e w' => e = .returned (.int .i64 0) ∧ w = w' := by
 subst h
 subst h2
 obtain ⟨c0, c1, f0, f1⟩ := or_two w hg
 clear hg
 skip
 go_enter Tryz.func137, Tryz.ntmps137
 go_wp2_with fail
 refine wp_loop_rounds 4 ?_
 rw [rounds_succ]
 go_wp2_with fail
 rw [rounds_succ]
 go_wp2_with fail
 rw [rounds_succ]
 go_wp2_with fail
 go_ret
 exact ⟨rfl, rfl⟩
theorem or_any {g : Nat} {a b : Int} (w : World) (hg : w.heap[g]? = some (.cells #[.int .i64 a, .int .i64 b] 3 (0, 0))) : Calls Tryz.prog 137 #[.slice (some ⟨g, 0, none⟩) 2 2] w fun e w' => e = .returned (.int .i64 (orI a b)) ∧ w = w' := by
 unfold orI
 by_cases h : a = 0
 ·rw [if_pos h]
  by_cases h2 : b = 0
  ·rw [h2]; exact or_3 w hg h h2
  ·exact or_2 w hg h h2
 ·rw [if_neg h]; exact or_1 w hg h
theorem pcompare_any (p o q r : Int) (w : World)  : Calls Tryz.prog 120 #[.agg #[.int .i64 p, .int .i64 o], .agg #[.int .i64 q, .int .i64 r]] w fun e w' => e = .returned (.int .i64 (cmpP p o q r)) ∧ Below w.heap.size w w' := by
 obtain ⟨c1, H1_⟩ : ∃ b, cmpI p q = b := ⟨_, rfl⟩
 have H1 := Lib.hid H1_
 clear H1_
 obtain ⟨c2, H2_⟩ : ∃ b, cmpI o r = b := ⟨_, rfl⟩
 have H2 := Lib.hid H2_
 clear H2_
 have bel := Below.refl w.heap.size w
 go_enter Tryz.func120, Tryz.ntmps120
 go_wp2_with (first | ((with_reducible show wpList _ _ _ (⟨some 2, _, _, _, _, _⟩ :: _) _ _); refine wpList_box_n rfl 100 (.tmp 0) rfl #[.int .i64 p, .int .i64 o] rfl ?_; intro g2 w1 ge lt hh bb; have opb := Nat.le_trans bel.size ge; replace bel := bel.trans (bb.mono bel.size); have hpb := hh; clear hh lt ge bb) | ((with_reducible show wpList _ _ _ (⟨some 3, _, _, _, _, _⟩ :: _) _ _); refine wpList_box_n rfl 100 (.tmp 1) rfl #[.int .i64 q, .int .i64 r] rfl ?_; intro g3 w2 ge lt hh bb; have d_pb_qb := ne_new (hlt hpb) ge; have oqb := Nat.le_trans bel.size ge; replace hpb := blk_u hpb bb; replace bel := bel.trans (bb.mono bel.size); have hqb := hh; clear hh lt ge bb))
 replace bel := bel.drew
 replace hpb : w2.drew.heap[g2]? = _ := hpb
 replace hqb : w2.drew.heap[g3]? = _ := hqb
 refine wp_region_held_drew (S := fun W => W.heap[g2]? = some (.cells #[.int .i64 p, .int .i64 o] 100 (0, 0)) ∧ W.heap[g3]? = some (.cells #[.int .i64 q, .int .i64 r] 100 (0, 0))) (by kernel_rfl) ⟨hpb, hqb⟩ (fun hH => ?_)
 generalize w2.drew = w3 at bel hpb hqb hH ⊢
 refine wpAnyH_take (i := 0) (v := ?_) rfl (by kernel_rfl) (by kernel_rfl) (by kernel_rfl) (fun _ _ _ h => h) (Or.inl ⟨by rfl, ?_⟩) hH ?_
 rotate_left
 ·((intro W hW; clear hW; go_simp) <;> with_reducible rfl)
 simp only [Act.put, List.getElem_toArray, List.getElem_cons_zero, List.setIfInBounds_toArray, List.set_cons_zero, List.set_cons_succ]
 refine wpAnyH_take (i := 1) (v := ?_) rfl (by kernel_rfl) (by kernel_rfl) (by kernel_rfl) (fun _ _ _ h => h) (Or.inl ⟨by rfl, ?_⟩) hH ?_
 rotate_left
 ·((intro W hW; have hk := cell_lit (hW.1) 0 _ rfl; clear hW; go_simp) <;> with_reducible rfl)
 simp only [sq3, sq4]
 refine wpAnyH_take (i := 2) (v := ?_) rfl (by kernel_rfl) (by kernel_rfl) (by kernel_rfl) (fun _ _ _ h => h) (Or.inl ⟨by rfl, ?_⟩) hH ?_
 rotate_left
 ·((intro W hW; clear hW; go_simp) <;> with_reducible rfl)
 simp only [sq3, sq4]
 refine wpAnyH_take (i := 3) (v := ?_) rfl (by kernel_rfl) (by kernel_rfl) (by kernel_rfl) (fun _ _ _ h => h) (Or.inl ⟨by rfl, ?_⟩) hH ?_
 rotate_left
 ·((intro W hW; have hk := cell_lit (hW.2) 0 _ rfl; clear hW; go_simp) <;> with_reducible rfl)
 simp only [sq3, sq4]
 refine wpAnyH_take (i := 5) (v := ?_) rfl (by kernel_rfl) (by kernel_rfl) (by kernel_rfl) (fun _ _ _ h => h) (Or.inl ⟨by rfl, ?_⟩) hH ?_
 rotate_left
 ·((intro W hW; clear hW; go_simp) <;> with_reducible rfl)
 simp only [sq3, sq4]
 refine wpAnyH_take (i := 6) (v := ?_) rfl (by kernel_rfl) (by kernel_rfl) (by kernel_rfl) (fun _ _ _ h => h) (Or.inl ⟨by rfl, ?_⟩) hH ?_
 rotate_left
 ·((intro W hW; have hk := cell_lit (hW.1) 1 _ rfl; clear hW; go_simp) <;> with_reducible rfl)
 simp only [sq3, sq4]
 refine wpAnyH_take (i := 7) (v := ?_) rfl (by kernel_rfl) (by kernel_rfl) (by kernel_rfl) (fun _ _ _ h => h) (Or.inl ⟨by rfl, ?_⟩) hH ?_
 rotate_left
 ·((intro W hW; clear hW; go_simp) <;> with_reducible rfl)
 simp only [sq3, sq4]
 refine wpAnyH_take (i := 8) (v := ?_) rfl (by kernel_rfl) (by kernel_rfl) (by kernel_rfl) (fun _ _ _ h => h) (Or.inl ⟨by rfl, ?_⟩) hH ?_
 rotate_left
 ·((intro W hW; have hk := cell_lit (hW.2) 1 _ rfl; clear hW; go_simp) <;> with_reducible rfl)
 simp only [sq3, sq4]
 refine wpAnyH_ready (rs := [4]) (by kernel_rfl) (by simp) ?_
 refine AllReadyH.cons (o := _) rfl (fun K hK => ?_) AllReadyH.nil
 simp only [sq3]
 go_simp
 with_reducible refine (cmpi_any p q _).mono ?_
 rintro e _ ⟨rfl, rfl⟩
 dsimp only
 rw [H1.out]
 refine hK.out _ _ ⟨hpb, hqb⟩ (fun hH4 => ?_)
 clear hK K
 refine wpAnyH_ready (rs := [9]) (by kernel_rfl) (by simp) ?_
 refine AllReadyH.cons (o := _) rfl (fun K hK => ?_) AllReadyH.nil
 simp only [sq3]
 go_simp
 with_reducible refine (cmpi_any o r _).mono ?_
 rintro e _ ⟨rfl, rfl⟩
 dsimp only
 rw [H2.out]
 refine hK.out _ _ ⟨hpb, hqb⟩ (fun hH5 => ?_)
 clear hK K
 refine wpAnyH_ready (rs := [10]) (by kernel_rfl) (by simp) ?_
 refine AllReadyH.cons (o := _) rfl (fun K hK => ?_) AllReadyH.nil
 simp only [sq3]
 rw [if_pos (by rfl)]
 refine wp_lit_n 61 3 2 _ rfl #[.int .i64 c1, .int .i64 c2] (.int .i64 0) Tryz.underlying61 (by kernel_rfl) 1 (by kernel_rfl) (by decide) (by kernel_rfl) ?_
 intro g15 w6 ge lt hh bb
 have d_pb_b15 := ne_new (hlt hpb) ge
 have d_qb_b15 := ne_new (hlt hqb) ge
 have ob15 := Nat.le_trans bel.size ge
 replace hpb := blk_u hpb bb
 replace hqb := blk_u hqb bb
 replace bel := bel.trans (bb.mono bel.size)
 have hb15 := hh
 clear hh lt ge bb
 refine hK.out _ _ ⟨hpb, hqb⟩ (fun hH7 => ?_)
 clear hK K
 simp only [sq4]
 refine wpAnyH_ready (rs := [11]) (by kernel_rfl) (by simp) ?_
 refine AllReadyH.cons (o := _) rfl (fun K hK => ?_) AllReadyH.nil
 simp only [sq3]
 go_simp
 with_reducible refine (or_any _ hb15).mono ?_
 rintro e _ ⟨rfl, rfl⟩
 dsimp only
 refine hK.out _ _ ⟨hpb, hqb⟩ (fun hH8 => ?_)
 clear hK K
 refine wpAnyH_take (i := 12) (v := ?_) rfl (by kernel_rfl) (by kernel_rfl) (by kernel_rfl) (fun _ _ _ h => h) (Or.inl ⟨by rfl, ?_⟩) hH8 ?_
 rotate_left
 ·((intro W hW; clear hW; go_simp) <;> with_reducible rfl)
 simp only [sq3, sq4]
 refine wpAnyH_done (by kernel_rfl) ?_ _
 go_wp2_with fail
 go_ret
 exact ⟨by show Ending.returned (.int .i64 (orI c1 c2)) = .returned (.int .i64 _); rw [cmpP_is, H1.out, H2.out], bel⟩
theorem mport_any (m : Mp) (w : World)  : Calls Tryz.prog 60 #[.agg #[.int .i64 m.pr, .int .i64 m.o, .int .u8 (m.ad.a.toNat : Int), .int .u8 (m.ad.b.toNat : Int), .int .u8 (m.ad.c.toNat : Int), .int .u8 (m.ad.d.toNat : Int), .int .i64 m.i, .int .i64 m.k, .int .i64 m.u]] w fun e w' => e = .returned (.agg #[.int .i64 m.pr, .int .i64 m.o]) ∧ Below w.heap.size w w' := by
 have bel := Below.refl w.heap.size w
 go_enter Tryz.func60, Tryz.ntmps60
 go_wp2_with (first | ((with_reducible show wpList _ _ _ (⟨some 1, _, _, _, _, _⟩ :: _) _ _); refine wpList_box_n rfl 65 (.tmp 0) rfl #[.int .i64 m.pr, .int .i64 m.o, .int .u8 (m.ad.a.toNat : Int), .int .u8 (m.ad.b.toNat : Int), .int .u8 (m.ad.c.toNat : Int), .int .u8 (m.ad.d.toNat : Int), .int .i64 m.i, .int .i64 m.k, .int .i64 m.u] rfl ?_; intro g1 w1 ge lt hh bb; have oeb := Nat.le_trans bel.size ge; replace bel := bel.trans (bb.mono bel.size); have heb := hh; clear hh lt ge bb) | ((with_reducible show wpList _ _ _ (⟨some 2, _, _, _, _, _⟩ :: _) _ _); refine wpList_new_a rfl 100 rfl #[.int .i64 0, .int .i64 0] (by kernel_rfl) ?_; intro g2 w2 ge hh bb; have d_eb_rb := ne_new (hlt heb) ge; have orb := Nat.le_trans bel.size ge; replace heb := blk_u heb bb; replace bel := bel.trans (bb.mono bel.size); have hrb := hh; clear hh ge bb; have R4 := cell_lit heb 0 _ rfl; have R6 := cell_lit heb 1 _ rfl) | ((with_reducible show wpList _ _ _ (⟨none, Op.store _ (.tmp 2) _, _, _, _, _⟩ :: _) _ _); refine wpList_store_blk rfl 100 (.tmp 2) (.tmp 7) rfl g2 rfl _ rfl _ 100 hrb (by rfl) (by kernel_rfl) (by kernel_rfl) ?_; intro w3 hq gr; replace heb := blk_a heb gr d_eb_rb; replace bel := below_grown bel gr orb bel.size; clear hrb; have hrb := hq; clear hq gr))
 try clear R4
 try clear R6
 exact bodyPost_ret (results_cell_row' rfl _ _ _ _ _ _ _ rfl hrb Tryz.underlying100 rfl (by kernel_rfl)) rfl ⟨rfl, bel⟩
theorem findf_any (x : Mp) (p o : Int) (w : World)  : Calls Tryz.prog 119 #[.agg #[.int .i64 x.pr, .int .i64 x.o, .int .u8 (x.ad.a.toNat : Int), .int .u8 (x.ad.b.toNat : Int), .int .u8 (x.ad.c.toNat : Int), .int .u8 (x.ad.d.toNat : Int), .int .i64 x.i, .int .i64 x.k, .int .i64 x.u], .agg #[.int .i64 p, .int .i64 o]] w fun e w' => e = .returned (.int .i64 (cmpP x.pr x.o p o)) ∧ Below w.heap.size w w' := by
 have bel := Below.refl w.heap.size w
 go_enter Tryz.func119, Tryz.ntmps119
 go_wp2_with (first | ((with_reducible show wpList _ _ _ (⟨some 2, _, _, _, _, _⟩ :: _) _ _); refine wpList_box_n rfl 65 (.tmp 0) rfl #[.int .i64 x.pr, .int .i64 x.o, .int .u8 (x.ad.a.toNat : Int), .int .u8 (x.ad.b.toNat : Int), .int .u8 (x.ad.c.toNat : Int), .int .u8 (x.ad.d.toNat : Int), .int .i64 x.i, .int .i64 x.k, .int .i64 x.u] rfl ?_; intro g2 w1 ge lt hh bb; have oeb := Nat.le_trans bel.size ge; replace bel := bel.trans (bb.mono bel.size); have heb := hh; clear hh lt ge bb) | ((with_reducible show wpList _ _ _ (⟨some 3, _, _, _, _, _⟩ :: _) _ _); refine wpList_box_n rfl 100 (.tmp 1) rfl #[.int .i64 p, .int .i64 o] rfl ?_; intro g3 w2 ge lt hh bb; have d_eb_ab := ne_new (hlt heb) ge; have oab := Nat.le_trans bel.size ge; replace heb := blk_u heb bb; replace bel := bel.trans (bb.mono bel.size); have hab := hh; clear hh lt ge bb))
 replace bel := bel.drew
 replace heb : w2.drew.heap[g2]? = _ := heb
 replace hab : w2.drew.heap[g3]? = _ := hab
 refine wp_region_held_drew (S := fun W => W.heap[g2]? = some (.cells #[.int .i64 x.pr, .int .i64 x.o, .int .u8 (x.ad.a.toNat : Int), .int .u8 (x.ad.b.toNat : Int), .int .u8 (x.ad.c.toNat : Int), .int .u8 (x.ad.d.toNat : Int), .int .i64 x.i, .int .i64 x.k, .int .i64 x.u] 65 (0, 0)) ∧ W.heap[g3]? = some (.cells #[.int .i64 p, .int .i64 o] 100 (0, 0))) (by kernel_rfl) ⟨heb, hab⟩ (fun hH => ?_)
 generalize w2.drew = w3 at bel heb hab hH ⊢
 refine wpAnyH_take (i := 0) (v := .agg #[.int .i64 x.pr, .int .i64 x.o, .int .u8 (x.ad.a.toNat : Int), .int .u8 (x.ad.b.toNat : Int), .int .u8 (x.ad.c.toNat : Int), .int .u8 (x.ad.d.toNat : Int), .int .i64 x.i, .int .i64 x.k, .int .i64 x.u]) rfl (by kernel_rfl) (by kernel_rfl) (by kernel_rfl) (fun _ _ _ h => h) (yieldsIf_load_part (by kernel_rfl) 65 _ rfl g2 0 9 rfl _ 65 (0, 0) (fun W hW => hW.1) _ rfl _ Tryz.underlying65 rfl (by kernel_rfl)) hH ?_
 simp only [Act.put, List.getElem_toArray, List.getElem_cons_zero, List.setIfInBounds_toArray, List.set_cons_zero, List.set_cons_succ]
 refine wpAnyH_take (i := 2) (v := .agg #[.int .i64 p, .int .i64 o]) rfl (by kernel_rfl) (by kernel_rfl) (by kernel_rfl) (fun _ _ _ h => h) (yieldsIf_load_part (by kernel_rfl) 100 _ rfl g3 0 2 rfl _ 100 (0, 0) (fun W hW => hW.2) _ rfl _ Tryz.underlying100 rfl (by kernel_rfl)) hH ?_
 simp only [sq3, sq4]
 refine wpAnyH_ready (rs := [1]) (by kernel_rfl) (by simp) ?_
 refine AllReadyH.cons (o := _) rfl (fun K hK => ?_) AllReadyH.nil
 simp only [sq3]
 go_simp
 with_reducible refine (mport_any x _).mono ?_
 rintro e w4 ⟨rfl, b4⟩
 dsimp only
 replace heb := blk_u heb b4
 replace hab := blk_u hab b4
 replace bel := bel.trans (b4.mono bel.size)
 clear b4
 refine hK.out _ _ ⟨heb, hab⟩ (fun hH5 => ?_)
 clear hK K
 refine wpAnyH_ready (rs := [3]) (by kernel_rfl) (by simp) ?_
 refine AllReadyH.cons (o := _) rfl (fun K hK => ?_) AllReadyH.nil
 simp only [sq3]
 go_simp
 with_reducible refine (pcompare_any x.pr x.o p o _).mono ?_
 rintro e w6 ⟨rfl, b6⟩
 dsimp only
 replace heb := blk_u heb b6
 replace hab := blk_u hab b6
 replace bel := bel.trans (b6.mono bel.size)
 clear b6
 refine hK.out _ _ ⟨heb, hab⟩ (fun hH7 => ?_)
 clear hK K
 refine wpAnyH_take (i := 4) (v := ?_) rfl (by kernel_rfl) (by kernel_rfl) (by kernel_rfl) (fun _ _ _ h => h) (Or.inl ⟨by rfl, ?_⟩) hH7 ?_
 rotate_left
 ·((intro W hW; clear hW; go_simp) <;> with_reducible rfl)
 simp only [sq3, sq4]
 refine wpAnyH_done (by kernel_rfl) ?_ _
 go_wp2_with fail
 go_ret
 exact ⟨rfl, bel⟩
theorem live_4 {m : Mp} {now : Int} (w : World) (h : (m.k == 4) = true) : Calls Tryz.prog 58 #[.agg #[.int .i64 m.pr, .int .i64 m.o, .int .u8 (m.ad.a.toNat : Int), .int .u8 (m.ad.b.toNat : Int), .int .u8 (m.ad.c.toNat : Int), .int .u8 (m.ad.d.toNat : Int), .int .i64 m.i, .int .i64 m.k, .int .i64 m.u], .int .i64 now] w fun e w' => e = .returned (.bool true) ∧ Below w.heap.size w w' := by
 have bel := Below.refl w.heap.size w
 go_enter Tryz.func58, Tryz.ntmps58
 go_wp2_with (first | ((with_reducible show wpList _ _ _ (⟨some 2, _, _, _, _, _⟩ :: _) _ _); refine wpList_box_n rfl 65 (.tmp 0) rfl #[.int .i64 m.pr, .int .i64 m.o, .int .u8 (m.ad.a.toNat : Int), .int .u8 (m.ad.b.toNat : Int), .int .u8 (m.ad.c.toNat : Int), .int .u8 (m.ad.d.toNat : Int), .int .i64 m.i, .int .i64 m.k, .int .i64 m.u] rfl ?_; intro g2 w1 ge lt hh bb; have oeb := Nat.le_trans bel.size ge; replace bel := bel.trans (bb.mono bel.size); have heb := hh; clear hh lt ge bb; have R6 := cell_lit heb 7 _ rfl))
 try clear R6
 go_ret
 exact ⟨rfl, bel⟩
theorem live_y {m : Mp} {now : Int} (w : World) (h : (m.k == 4) = false) (h2 : now < m.u) : Calls Tryz.prog 58 #[.agg #[.int .i64 m.pr, .int .i64 m.o, .int .u8 (m.ad.a.toNat : Int), .int .u8 (m.ad.b.toNat : Int), .int .u8 (m.ad.c.toNat : Int), .int .u8 (m.ad.d.toNat : Int), .int .i64 m.i, .int .i64 m.k, .int .i64 m.u], .int .i64 now] w fun e w' => e = .returned (.bool true) ∧ Below w.heap.size w w' := by
 have bel := Below.refl w.heap.size w
 go_enter Tryz.func58, Tryz.ntmps58
 go_wp2_with (first | ((with_reducible show wpList _ _ _ (⟨some 2, _, _, _, _, _⟩ :: _) _ _); refine wpList_box_n rfl 65 (.tmp 0) rfl #[.int .i64 m.pr, .int .i64 m.o, .int .u8 (m.ad.a.toNat : Int), .int .u8 (m.ad.b.toNat : Int), .int .u8 (m.ad.c.toNat : Int), .int .u8 (m.ad.d.toNat : Int), .int .i64 m.i, .int .i64 m.k, .int .i64 m.u] rfl ?_; intro g2 w1 ge lt hh bb; have oeb := Nat.le_trans bel.size ge; replace bel := bel.trans (bb.mono bel.size); have heb := hh; clear hh lt ge bb; have R6 := cell_lit heb 7 _ rfl; have R11 := cell_lit heb 8 _ rfl))
 try clear R6
 try clear R11
 go_ret
 exact ⟨rfl, bel⟩
theorem live_n {m : Mp} {now : Int} (w : World) (h : (m.k == 4) = false) (h2 : ¬ now < m.u) : Calls Tryz.prog 58 #[.agg #[.int .i64 m.pr, .int .i64 m.o, .int .u8 (m.ad.a.toNat : Int), .int .u8 (m.ad.b.toNat : Int), .int .u8 (m.ad.c.toNat : Int), .int .u8 (m.ad.d.toNat : Int), .int .i64 m.i, .int .i64 m.k, .int .i64 m.u], .int .i64 now] w fun e w' => e = .returned (.bool false) ∧ Below w.heap.size w w' := by
 have h3 : decide (now < m.u) = false := decide_eq_false h2
 clear h2
 have bel := Below.refl w.heap.size w
 go_enter Tryz.func58, Tryz.ntmps58
 go_wp2_with (first | ((with_reducible show wpList _ _ _ (⟨some 2, _, _, _, _, _⟩ :: _) _ _); refine wpList_box_n rfl 65 (.tmp 0) rfl #[.int .i64 m.pr, .int .i64 m.o, .int .u8 (m.ad.a.toNat : Int), .int .u8 (m.ad.b.toNat : Int), .int .u8 (m.ad.c.toNat : Int), .int .u8 (m.ad.d.toNat : Int), .int .i64 m.i, .int .i64 m.k, .int .i64 m.u] rfl ?_; intro g2 w1 ge lt hh bb; have oeb := Nat.le_trans bel.size ge; replace bel := bel.trans (bb.mono bel.size); have heb := hh; clear hh lt ge bb; have R6 := cell_lit heb 7 _ rfl; have R11 := cell_lit heb 8 _ rfl))
 try clear R6
 try clear R11
 go_ret
 exact ⟨rfl, bel⟩
theorem live_any {m : Mp} {now : Int} {b : Bool} (w : World) (h : liveB now m = b) : Calls Tryz.prog 58 #[.agg #[.int .i64 m.pr, .int .i64 m.o, .int .u8 (m.ad.a.toNat : Int), .int .u8 (m.ad.b.toNat : Int), .int .u8 (m.ad.c.toNat : Int), .int .u8 (m.ad.d.toNat : Int), .int .i64 m.i, .int .i64 m.k, .int .i64 m.u], .int .i64 now] w fun e w' => e = .returned (.bool b) ∧ Below w.heap.size w w' := by
 unfold liveB at h
 cases h4 : m.k == 4 with
 | true => rw [h4, Bool.true_or] at h; subst h; exact live_4 w h4
 | false =>
  rw [h4, Bool.false_or] at h
  by_cases h2 : now < m.u
  ·rw [decide_eq_true h2] at h; subst h; exact live_y w h4 h2
  ·rw [decide_eq_false h2] at h; subst h; exact live_n w h4 h2
theorem isport_a1 {p n : Int} (w : World) (h : (p == 1) = true) (h1 : 0 ≤ n) (h2 : n ≤ 65535) : Calls Tryz.prog 94 #[.int .i64 p, .int .i64 n] w fun e w' => e = .returned (.bool true) ∧ w = w' := by
 have g1 : n ≥ 0 := h1
 skip
 go_enter Tryz.func94, Tryz.ntmps94
 go_wp2_with fail
 go_ret
 exact ⟨rfl, rfl⟩
theorem isport_a2 {p n : Int} (w : World) (h : (p == 1) = true) (h1 : ¬ 0 ≤ n) : Calls Tryz.prog 94 #[.int .i64 p, .int .i64 n] w fun e w' => e = .returned (.bool false) ∧ w = w' := by
 have g1 : decide (n ≥ 0) = false := decide_eq_false h1
 have g2 : decide (0 ≤ n) = false := decide_eq_false h1
 clear h1
 skip
 go_enter Tryz.func94, Tryz.ntmps94
 go_wp2_with fail
 go_ret
 exact ⟨rfl, rfl⟩
theorem isport_a3 {p n : Int} (w : World) (h : (p == 1) = true) (h1 : 0 ≤ n) (h2 : ¬ n ≤ 65535) : Calls Tryz.prog 94 #[.int .i64 p, .int .i64 n] w fun e w' => e = .returned (.bool false) ∧ w = w' := by
 have g1 : n ≥ 0 := h1
 have g2 : decide (n ≤ 65535) = false := decide_eq_false h2
 clear h2
 skip
 go_enter Tryz.func94, Tryz.ntmps94
 go_wp2_with fail
 go_ret
 exact ⟨rfl, rfl⟩
theorem isport_b1 {p n : Int} (w : World) (h : (p == 1) = false) (h6 : (p == 6) = true) (h1 : 1 ≤ n) (h2 : n ≤ 65535) : Calls Tryz.prog 94 #[.int .i64 p, .int .i64 n] w fun e w' => e = .returned (.bool true) ∧ w = w' := by
 have g1 : n ≥ 1 := h1
 skip
 go_enter Tryz.func94, Tryz.ntmps94
 go_wp2_with fail
 go_ret
 exact ⟨rfl, rfl⟩
theorem isport_b2 {p n : Int} (w : World) (h : (p == 1) = false) (h6 : (p == 6) = true) (h1 : ¬ 1 ≤ n) : Calls Tryz.prog 94 #[.int .i64 p, .int .i64 n] w fun e w' => e = .returned (.bool false) ∧ w = w' := by
 have g1 : decide (n ≥ 1) = false := decide_eq_false h1
 have g2 : decide (1 ≤ n) = false := decide_eq_false h1
 clear h1
 skip
 go_enter Tryz.func94, Tryz.ntmps94
 go_wp2_with fail
 go_ret
 exact ⟨rfl, rfl⟩
theorem isport_b3 {p n : Int} (w : World) (h : (p == 1) = false) (h6 : (p == 6) = true) (h1 : 1 ≤ n) (h2 : ¬ n ≤ 65535) : Calls Tryz.prog 94 #[.int .i64 p, .int .i64 n] w fun e w' => e = .returned (.bool false) ∧ w = w' := by
 have g1 : n ≥ 1 := h1
 have g2 : decide (n ≤ 65535) = false := decide_eq_false h2
 clear h2
 skip
 go_enter Tryz.func94, Tryz.ntmps94
 go_wp2_with fail
 go_ret
 exact ⟨rfl, rfl⟩
theorem isport_c1 {p n : Int} (w : World) (h : (p == 1) = false) (h6 : (p == 6) = false) (h7 : (p == 17) = true) (h1 : 1 ≤ n) (h2 : n ≤ 65535) : Calls Tryz.prog 94 #[.int .i64 p, .int .i64 n] w fun e w' => e = .returned (.bool true) ∧ w = w' := by
 have g1 : n ≥ 1 := h1
 skip
 go_enter Tryz.func94, Tryz.ntmps94
 go_wp2_with fail
 go_ret
 exact ⟨rfl, rfl⟩
theorem isport_c2 {p n : Int} (w : World) (h : (p == 1) = false) (h6 : (p == 6) = false) (h7 : (p == 17) = true) (h1 : ¬ 1 ≤ n) : Calls Tryz.prog 94 #[.int .i64 p, .int .i64 n] w fun e w' => e = .returned (.bool false) ∧ w = w' := by
 have g1 : decide (n ≥ 1) = false := decide_eq_false h1
 have g2 : decide (1 ≤ n) = false := decide_eq_false h1
 clear h1
 skip
 go_enter Tryz.func94, Tryz.ntmps94
 go_wp2_with fail
 go_ret
 exact ⟨rfl, rfl⟩
theorem isport_c3 {p n : Int} (w : World) (h : (p == 1) = false) (h6 : (p == 6) = false) (h7 : (p == 17) = true) (h1 : 1 ≤ n) (h2 : ¬ n ≤ 65535) : Calls Tryz.prog 94 #[.int .i64 p, .int .i64 n] w fun e w' => e = .returned (.bool false) ∧ w = w' := by
 have g1 : n ≥ 1 := h1
 have g2 : decide (n ≤ 65535) = false := decide_eq_false h2
 clear h2
 skip
 go_enter Tryz.func94, Tryz.ntmps94
 go_wp2_with fail
 go_ret
 exact ⟨rfl, rfl⟩
theorem isport_d {p n : Int} (w : World) (h : (p == 1) = false) (h6 : (p == 6) = false) (h7 : (p == 17) = false) : Calls Tryz.prog 94 #[.int .i64 p, .int .i64 n] w fun e w' => e = .returned (.bool false) ∧ w = w' := by
 skip
 go_enter Tryz.func94, Tryz.ntmps94
 go_wp2_with fail
 go_ret
 exact ⟨rfl, rfl⟩
theorem isport_any {p n : Int} {b : Bool} (w : World) (h : portB p n = b) : Calls Tryz.prog 94 #[.int .i64 p, .int .i64 n] w fun e w' => e = .returned (.bool b) ∧ w = w' := by
 have two : ∀ (q : Int), (decide (q ≤ n) && decide (n ≤ 65535)) = b → (q ≤ n ∧ n ≤ 65535 ∧ b = true) ∨ (¬ q ≤ n ∧ b = false) ∨ (q ≤ n ∧ ¬ n ≤ 65535 ∧ b = false) := fun q hq => by
  by_cases a : q ≤ n
  ·by_cases c : n ≤ 65535
   ·left; refine ⟨a, c, ?_⟩; rw [← hq, decide_eq_true a, decide_eq_true c]; rfl
   ·right; right; refine ⟨a, c, ?_⟩; rw [← hq, decide_eq_true a, decide_eq_false c]; rfl
  ·right; left; refine ⟨a, ?_⟩; rw [← hq, decide_eq_false a]; rfl
 unfold portB at h
 by_cases h1 : p = 1
 ·rw [if_pos h1] at h
  have e1 : (p == 1) = true := beq_iff_eq.2 h1
  rcases two 0 h with ⟨a, c, rfl⟩ | ⟨a, rfl⟩ | ⟨a, c, rfl⟩
  ·exact isport_a1 w e1 a c
  ·exact isport_a2 w e1 a
  ·exact isport_a3 w e1 a c
 ·rw [if_neg h1] at h
  have e1 : (p == 1) = false := beq_eq_false_iff_ne.2 h1
  by_cases h6 : p = 6
  ·have e6 : (p == 6) = true := beq_iff_eq.2 h6
   rw [if_pos (Or.inl h6)] at h
   rcases two 1 h with ⟨a, c, rfl⟩ | ⟨a, rfl⟩ | ⟨a, c, rfl⟩
   ·exact isport_b1 w e1 e6 a c
   ·exact isport_b2 w e1 e6 a
   ·exact isport_b3 w e1 e6 a c
  ·have e6 : (p == 6) = false := beq_eq_false_iff_ne.2 h6
   by_cases h7 : p = 17
   ·have e7 : (p == 17) = true := beq_iff_eq.2 h7
    rw [if_pos (Or.inr h7)] at h
    rcases two 1 h with ⟨a, c, rfl⟩ | ⟨a, rfl⟩ | ⟨a, c, rfl⟩
    ·exact isport_c1 w e1 e6 e7 a c
    ·exact isport_c2 w e1 e6 e7 a
    ·exact isport_c3 w e1 e6 e7 a c
   ·have e7 : (p == 17) = false := beq_eq_false_iff_ne.2 h7
    rw [if_neg (by omega)] at h
    subst h
    exact isport_d w e1 e6 e7
theorem secs_1 {s : Int} (w : World) (h1 : 1 ≤ s) (h2 : s ≤ 1000000000) : Calls Tryz.prog 99 #[.int .i64 s] w fun e w' => e = .returned (.bool true) ∧ w = w' := by
 have g1 : s ≥ 1 := h1
 skip
 go_enter Tryz.func99, Tryz.ntmps99
 go_wp2_with fail
 go_ret
 exact ⟨rfl, rfl⟩
theorem secs_2 {s : Int} (w : World) (h1 : ¬ 1 ≤ s) : Calls Tryz.prog 99 #[.int .i64 s] w fun e w' => e = .returned (.bool false) ∧ w = w' := by
 have g1 : decide (s ≥ 1) = false := decide_eq_false h1
 have g2 : decide (1 ≤ s) = false := decide_eq_false h1
 clear h1
 skip
 go_enter Tryz.func99, Tryz.ntmps99
 go_wp2_with fail
 go_ret
 exact ⟨rfl, rfl⟩
theorem secs_3 {s : Int} (w : World) (h1 : 1 ≤ s) (h2 : ¬ s ≤ 1000000000) : Calls Tryz.prog 99 #[.int .i64 s] w fun e w' => e = .returned (.bool false) ∧ w = w' := by
 have g1 : s ≥ 1 := h1
 have g2 : decide (s ≤ 1000000000) = false := decide_eq_false h2
 clear h2
 skip
 go_enter Tryz.func99, Tryz.ntmps99
 go_wp2_with fail
 go_ret
 exact ⟨rfl, rfl⟩
theorem secs_any {s : Int} {b : Bool} (w : World) (h : secsB s = b) : Calls Tryz.prog 99 #[.int .i64 s] w fun e w' => e = .returned (.bool b) ∧ w = w' := by
 unfold secsB at h
 by_cases a : 1 ≤ s
 ·by_cases c : s ≤ 1000000000
  ·rw [decide_eq_true a, decide_eq_true c] at h; subst h; exact secs_1 w a c
  ·rw [decide_eq_true a, decide_eq_false c] at h; subst h; exact secs_3 w a c
 ·rw [decide_eq_false a] at h; subst h; exact secs_2 w a
theorem isfor_n1 {m : Mp} {pr p : Int} {ad : Ad4} (w : World) (h1 : (m.pr == pr) = false) : Calls Tryz.prog 141 #[.agg #[.int .i64 m.pr, .int .i64 m.o, .int .u8 (m.ad.a.toNat : Int), .int .u8 (m.ad.b.toNat : Int), .int .u8 (m.ad.c.toNat : Int), .int .u8 (m.ad.d.toNat : Int), .int .i64 m.i, .int .i64 m.k, .int .i64 m.u], .agg #[.int .i64 pr, .int .u8 (ad.a.toNat : Int), .int .u8 (ad.b.toNat : Int), .int .u8 (ad.c.toNat : Int), .int .u8 (ad.d.toNat : Int), .int .i64 p]] w fun e w' => e = .returned (.bool false) ∧ Below w.heap.size w w' := by
 have bel := Below.refl w.heap.size w
 go_enter Tryz.func141, Tryz.ntmps141
 go_wp2_with (first | ((with_reducible show wpList _ _ _ (⟨some 2, _, _, _, _, _⟩ :: _) _ _); refine wpList_box_n rfl 65 (.tmp 0) rfl #[.int .i64 m.pr, .int .i64 m.o, .int .u8 (m.ad.a.toNat : Int), .int .u8 (m.ad.b.toNat : Int), .int .u8 (m.ad.c.toNat : Int), .int .u8 (m.ad.d.toNat : Int), .int .i64 m.i, .int .i64 m.k, .int .i64 m.u] rfl ?_; intro g2 w1 ge lt hh bb; have oeb := Nat.le_trans bel.size ge; replace bel := bel.trans (bb.mono bel.size); have heb := hh; clear hh lt ge bb) | ((with_reducible show wpList _ _ _ (⟨some 3, _, _, _, _, _⟩ :: _) _ _); refine wpList_box_n rfl 164 (.tmp 1) rfl #[.int .i64 pr, .int .u8 (ad.a.toNat : Int), .int .u8 (ad.b.toNat : Int), .int .u8 (ad.c.toNat : Int), .int .u8 (ad.d.toNat : Int), .int .i64 p] rfl ?_; intro g3 w2 ge lt hh bb; have d_eb_fb := ne_new (hlt heb) ge; have ofb := Nat.le_trans bel.size ge; replace heb := blk_u heb bb; replace bel := bel.trans (bb.mono bel.size); have hfb := hh; clear hh lt ge bb; have R6 := cell_lit heb 0 _ rfl; have R8 := cell_lit hfb 0 _ rfl))
 try clear R6
 try clear R8
 go_ret
 exact ⟨rfl, bel⟩
theorem isfor_n2 {m : Mp} {pr p : Int} {ad : Ad4} (w : World) (h1 : (m.pr == pr) = true) (h2 : m.ad.eqB ad = false) : Calls Tryz.prog 141 #[.agg #[.int .i64 m.pr, .int .i64 m.o, .int .u8 (m.ad.a.toNat : Int), .int .u8 (m.ad.b.toNat : Int), .int .u8 (m.ad.c.toNat : Int), .int .u8 (m.ad.d.toNat : Int), .int .i64 m.i, .int .i64 m.k, .int .i64 m.u], .agg #[.int .i64 pr, .int .u8 (ad.a.toNat : Int), .int .u8 (ad.b.toNat : Int), .int .u8 (ad.c.toNat : Int), .int .u8 (ad.d.toNat : Int), .int .i64 p]] w fun e w' => e = .returned (.bool false) ∧ Below w.heap.size w w' := by
 have q : ∀ W, (binOp .eql 35 (.agg #[.int .u8 (m.ad.a.toNat : Int), .int .u8 (m.ad.b.toNat : Int), .int .u8 (m.ad.c.toNat : Int), .int .u8 (m.ad.d.toNat : Int)]) (.agg #[.int .u8 (ad.a.toNat : Int), .int .u8 (ad.b.toNat : Int), .int .u8 (ad.c.toNat : Int), .int .u8 (ad.d.toNat : Int)])).run Tryz.prog W = .ok (.bool false) W := fun W => by have h_ := eqa_b m.ad ad W; rw [h2] at h_; exact h_
 have bel := Below.refl w.heap.size w
 go_enter Tryz.func141, Tryz.ntmps141
 go_wp2_with (first | ((with_reducible show wpList _ _ _ (⟨some 2, _, _, _, _, _⟩ :: _) _ _); refine wpList_box_n rfl 65 (.tmp 0) rfl #[.int .i64 m.pr, .int .i64 m.o, .int .u8 (m.ad.a.toNat : Int), .int .u8 (m.ad.b.toNat : Int), .int .u8 (m.ad.c.toNat : Int), .int .u8 (m.ad.d.toNat : Int), .int .i64 m.i, .int .i64 m.k, .int .i64 m.u] rfl ?_; intro g2 w1 ge lt hh bb; have oeb := Nat.le_trans bel.size ge; replace bel := bel.trans (bb.mono bel.size); have heb := hh; clear hh lt ge bb) | ((with_reducible show wpList _ _ _ (⟨some 3, _, _, _, _, _⟩ :: _) _ _); refine wpList_box_n rfl 164 (.tmp 1) rfl #[.int .i64 pr, .int .u8 (ad.a.toNat : Int), .int .u8 (ad.b.toNat : Int), .int .u8 (ad.c.toNat : Int), .int .u8 (ad.d.toNat : Int), .int .i64 p] rfl ?_; intro g3 w2 ge lt hh bb; have d_eb_fb := ne_new (hlt heb) ge; have ofb := Nat.le_trans bel.size ge; replace heb := blk_u heb bb; replace bel := bel.trans (bb.mono bel.size); have hfb := hh; clear hh lt ge bb; have R6 := cell_lit heb 0 _ rfl; have R8 := cell_lit hfb 0 _ rfl; have R12 := Lib.hid (range_lit heb 2 4 [.int .u8 (m.ad.a.toNat : Int), .int .u8 (m.ad.b.toNat : Int), .int .u8 (m.ad.c.toNat : Int), .int .u8 (m.ad.d.toNat : Int)] rfl)) | ((with_reducible show wpList _ _ _ (⟨some 12, _, _, _, _, _⟩ :: _) _ _); refine wpList_load_rng 35 (.tmp 11) rfl (by kernel_rfl) _ _ rfl _ R12.out _ Tryz.underlying35 rfl (by kernel_rfl) ?_; have R14 := Lib.hid (range_lit hfb 1 4 [.int .u8 (ad.a.toNat : Int), .int .u8 (ad.b.toNat : Int), .int .u8 (ad.c.toNat : Int), .int .u8 (ad.d.toNat : Int)] rfl)) | ((with_reducible show wpList _ _ _ (⟨some 14, _, _, _, _, _⟩ :: _) _ _); refine wpList_load_rng 35 (.tmp 13) rfl (by kernel_rfl) _ _ rfl _ R14.out _ Tryz.underlying35 rfl (by kernel_rfl) ?_))
 try clear R6
 try clear R8
 try clear R12
 try clear R14
 go_ret
 exact ⟨rfl, bel⟩
theorem isfor_y {m : Mp} {pr p : Int} {ad : Ad4} {b : Bool} (w : World) (h1 : (m.pr == pr) = true) (h2 : m.ad.eqB ad = true) (h3 : (m.i == p) = b) : Calls Tryz.prog 141 #[.agg #[.int .i64 m.pr, .int .i64 m.o, .int .u8 (m.ad.a.toNat : Int), .int .u8 (m.ad.b.toNat : Int), .int .u8 (m.ad.c.toNat : Int), .int .u8 (m.ad.d.toNat : Int), .int .i64 m.i, .int .i64 m.k, .int .i64 m.u], .agg #[.int .i64 pr, .int .u8 (ad.a.toNat : Int), .int .u8 (ad.b.toNat : Int), .int .u8 (ad.c.toNat : Int), .int .u8 (ad.d.toNat : Int), .int .i64 p]] w fun e w' => e = .returned (.bool b) ∧ Below w.heap.size w w' := by
 have q : ∀ W, (binOp .eql 35 (.agg #[.int .u8 (m.ad.a.toNat : Int), .int .u8 (m.ad.b.toNat : Int), .int .u8 (m.ad.c.toNat : Int), .int .u8 (m.ad.d.toNat : Int)]) (.agg #[.int .u8 (ad.a.toNat : Int), .int .u8 (ad.b.toNat : Int), .int .u8 (ad.c.toNat : Int), .int .u8 (ad.d.toNat : Int)])).run Tryz.prog W = .ok (.bool true) W := fun W => by have h_ := eqa_b m.ad ad W; rw [h2] at h_; exact h_
 have bel := Below.refl w.heap.size w
 go_enter Tryz.func141, Tryz.ntmps141
 go_wp2_with (first | ((with_reducible show wpList _ _ _ (⟨some 2, _, _, _, _, _⟩ :: _) _ _); refine wpList_box_n rfl 65 (.tmp 0) rfl #[.int .i64 m.pr, .int .i64 m.o, .int .u8 (m.ad.a.toNat : Int), .int .u8 (m.ad.b.toNat : Int), .int .u8 (m.ad.c.toNat : Int), .int .u8 (m.ad.d.toNat : Int), .int .i64 m.i, .int .i64 m.k, .int .i64 m.u] rfl ?_; intro g2 w1 ge lt hh bb; have oeb := Nat.le_trans bel.size ge; replace bel := bel.trans (bb.mono bel.size); have heb := hh; clear hh lt ge bb) | ((with_reducible show wpList _ _ _ (⟨some 3, _, _, _, _, _⟩ :: _) _ _); refine wpList_box_n rfl 164 (.tmp 1) rfl #[.int .i64 pr, .int .u8 (ad.a.toNat : Int), .int .u8 (ad.b.toNat : Int), .int .u8 (ad.c.toNat : Int), .int .u8 (ad.d.toNat : Int), .int .i64 p] rfl ?_; intro g3 w2 ge lt hh bb; have d_eb_fb := ne_new (hlt heb) ge; have ofb := Nat.le_trans bel.size ge; replace heb := blk_u heb bb; replace bel := bel.trans (bb.mono bel.size); have hfb := hh; clear hh lt ge bb; have R6 := cell_lit heb 0 _ rfl; have R8 := cell_lit hfb 0 _ rfl; have R12 := Lib.hid (range_lit heb 2 4 [.int .u8 (m.ad.a.toNat : Int), .int .u8 (m.ad.b.toNat : Int), .int .u8 (m.ad.c.toNat : Int), .int .u8 (m.ad.d.toNat : Int)] rfl)) | ((with_reducible show wpList _ _ _ (⟨some 12, _, _, _, _, _⟩ :: _) _ _); refine wpList_load_rng 35 (.tmp 11) rfl (by kernel_rfl) _ _ rfl _ R12.out _ Tryz.underlying35 rfl (by kernel_rfl) ?_; have R14 := Lib.hid (range_lit hfb 1 4 [.int .u8 (ad.a.toNat : Int), .int .u8 (ad.b.toNat : Int), .int .u8 (ad.c.toNat : Int), .int .u8 (ad.d.toNat : Int)] rfl)) | ((with_reducible show wpList _ _ _ (⟨some 14, _, _, _, _, _⟩ :: _) _ _); refine wpList_load_rng 35 (.tmp 13) rfl (by kernel_rfl) _ _ rfl _ R14.out _ Tryz.underlying35 rfl (by kernel_rfl) ?_; have R19 := cell_lit heb 6 _ rfl; have R21 := cell_lit hfb 5 _ rfl))
 try clear R6
 try clear R8
 try clear R12
 try clear R14
 try clear R19
 try clear R21
 go_ret
 exact ⟨rfl, bel⟩
theorem isfor_any {m : Mp} {pr p : Int} {ad : Ad4} {b : Bool} (w : World) (h : forB pr ad p m = b) : Calls Tryz.prog 141 #[.agg #[.int .i64 m.pr, .int .i64 m.o, .int .u8 (m.ad.a.toNat : Int), .int .u8 (m.ad.b.toNat : Int), .int .u8 (m.ad.c.toNat : Int), .int .u8 (m.ad.d.toNat : Int), .int .i64 m.i, .int .i64 m.k, .int .i64 m.u], .agg #[.int .i64 pr, .int .u8 (ad.a.toNat : Int), .int .u8 (ad.b.toNat : Int), .int .u8 (ad.c.toNat : Int), .int .u8 (ad.d.toNat : Int), .int .i64 p]] w fun e w' => e = .returned (.bool b) ∧ Below w.heap.size w w' := by
 unfold forB at h
 cases e1 : m.pr == pr with
 | false => rw [e1, Bool.false_and] at h; subst h; exact isfor_n1 w e1
 | true =>
  cases e2 : m.ad.eqB ad with
  | false => rw [e1, e2, Bool.true_and, Bool.false_and] at h; subst h; exact isfor_n2 w e1 e2
  | true => rw [e1, e2, Bool.true_and, Bool.true_and] at h; exact isfor_y w e1 e2 h
theorem rank_4 {m : Mp} (w : World) (h : (m.k == 4) = true) : Calls Tryz.prog 142 #[.agg #[.int .i64 m.pr, .int .i64 m.o, .int .u8 (m.ad.a.toNat : Int), .int .u8 (m.ad.b.toNat : Int), .int .u8 (m.ad.c.toNat : Int), .int .u8 (m.ad.d.toNat : Int), .int .i64 m.i, .int .i64 m.k, .int .i64 m.u]] w fun e w' => e = .returned (.int .i64 0) ∧ Below w.heap.size w w' := by
 have bel := Below.refl w.heap.size w
 go_enter Tryz.func142, Tryz.ntmps142
 go_wp2_with (first | ((with_reducible show wpList _ _ _ (⟨some 1, _, _, _, _, _⟩ :: _) _ _); refine wpList_box_n rfl 65 (.tmp 0) rfl #[.int .i64 m.pr, .int .i64 m.o, .int .u8 (m.ad.a.toNat : Int), .int .u8 (m.ad.b.toNat : Int), .int .u8 (m.ad.c.toNat : Int), .int .u8 (m.ad.d.toNat : Int), .int .i64 m.i, .int .i64 m.k, .int .i64 m.u] rfl ?_; intro g1 w1 ge lt hh bb; have oeb := Nat.le_trans bel.size ge; replace bel := bel.trans (bb.mono bel.size); have heb := hh; clear hh lt ge bb; have R4 := cell_lit heb 7 _ rfl))
 try clear R4
 go_ret
 exact ⟨rfl, bel⟩
theorem rank_n {m : Mp} (w : World) (h : (m.k == 4) = false) : Calls Tryz.prog 142 #[.agg #[.int .i64 m.pr, .int .i64 m.o, .int .u8 (m.ad.a.toNat : Int), .int .u8 (m.ad.b.toNat : Int), .int .u8 (m.ad.c.toNat : Int), .int .u8 (m.ad.d.toNat : Int), .int .i64 m.i, .int .i64 m.k, .int .i64 m.u]] w fun e w' => e = .returned (.int .i64 m.k) ∧ Below w.heap.size w w' := by
 have bel := Below.refl w.heap.size w
 go_enter Tryz.func142, Tryz.ntmps142
 go_wp2_with (first | ((with_reducible show wpList _ _ _ (⟨some 1, _, _, _, _, _⟩ :: _) _ _); refine wpList_box_n rfl 65 (.tmp 0) rfl #[.int .i64 m.pr, .int .i64 m.o, .int .u8 (m.ad.a.toNat : Int), .int .u8 (m.ad.b.toNat : Int), .int .u8 (m.ad.c.toNat : Int), .int .u8 (m.ad.d.toNat : Int), .int .i64 m.i, .int .i64 m.k, .int .i64 m.u] rfl ?_; intro g1 w1 ge lt hh bb; have oeb := Nat.le_trans bel.size ge; replace bel := bel.trans (bb.mono bel.size); have heb := hh; clear hh lt ge bb; have R4 := cell_lit heb 7 _ rfl; have R7 := cell_lit heb 7 _ rfl))
 try clear R4
 try clear R7
 go_ret
 exact ⟨rfl, bel⟩
theorem rank_any {m : Mp} {r : Int} (w : World) (h : m.rank = r) : Calls Tryz.prog 142 #[.agg #[.int .i64 m.pr, .int .i64 m.o, .int .u8 (m.ad.a.toNat : Int), .int .u8 (m.ad.b.toNat : Int), .int .u8 (m.ad.c.toNat : Int), .int .u8 (m.ad.d.toNat : Int), .int .i64 m.i, .int .i64 m.k, .int .i64 m.u]] w fun e w' => e = .returned (.int .i64 r) ∧ Below w.heap.size w w' := by
 unfold Mp.rank at h
 by_cases e : m.k = 4
 ·rw [if_pos e] at h; subst h; exact rank_4 w (beq_iff_eq.2 e)
 ·rw [if_neg e] at h; subst h; exact rank_n w (beq_eq_false_iff_ne.2 e)
theorem found_none (w : World)  : Calls Tryz.prog 65 #[.pointer none] w fun e w' => e = .returned (.tuple #[.agg #[.int .i64 0, .int .i64 0, .int .u8 0, .int .u8 0, .int .u8 0, .int .u8 0, .int .i64 0, .int .i64 0, .int .i64 0], .bool false]) ∧ Below w.heap.size w w' := by
 have bel := Below.refl w.heap.size w
 go_enter Tryz.func65, Tryz.ntmps65
 go_wp2_with (first | ((with_reducible show wpList _ _ _ (⟨some 2, _, _, _, _, _⟩ :: _) _ _); refine wpList_new_a rfl 65 rfl #[.int .i64 0, .int .i64 0, .int .u8 0, .int .u8 0, .int .u8 0, .int .u8 0, .int .i64 0, .int .i64 0, .int .i64 0] (by kernel_rfl) ?_; intro g2 w1 ge hh bb; have orb := Nat.le_trans bel.size ge; replace bel := bel.trans (bb.mono bel.size); have hrb := hh; clear hh ge bb) | ((with_reducible show wpList _ _ _ (⟨none, Op.store _ (.tmp 2) _, _, _, _, _⟩ :: _) _ _); refine wpList_store_blk rfl 65 (.tmp 2) (.tmp 6) rfl g2 rfl _ rfl _ 65 hrb (by rfl) (by kernel_rfl) (by kernel_rfl) ?_; intro w2 hq gr; replace bel := below_grown bel gr orb bel.size; clear hrb; have hrb := hq; clear hq gr))
 exact bodyPost_ret (results_cell_tmp_row rfl _ _ _ _ _ _ _ rfl hrb Tryz.underlying65 rfl (by kernel_rfl) (.bool false) rfl) rfl ⟨rfl, bel⟩
theorem found_at {gE n c i : Nat} {l : List Mp} {x : Mp} (w : World) (en : Sle mpE 9 w (some ⟨gE, 0, none⟩) n c l) (hx : l[i]? = some x) : Calls Tryz.prog 65 #[.pointer (some ⟨gE, i * 9, none⟩)] w fun e w' => e = .returned (.tuple #[.agg #[.int .i64 x.pr, .int .i64 x.o, .int .u8 (x.ad.a.toNat : Int), .int .u8 (x.ad.b.toNat : Int), .int .u8 (x.ad.c.toNat : Int), .int .u8 (x.ad.d.toNat : Int), .int .i64 x.i, .int .i64 x.k, .int .i64 x.u], .bool true]) ∧ Below w.heap.size w w' := by
 have HX := Lib.hid hx
 clear hx
 have bel := Below.refl w.heap.size w
 go_enter Tryz.func65, Tryz.ntmps65
 go_wp2_with (first | ((with_reducible show wpList _ _ _ (⟨some 2, _, _, _, _, _⟩ :: _) _ _); refine wpList_new_a rfl 65 rfl #[.int .i64 0, .int .i64 0, .int .u8 0, .int .u8 0, .int .u8 0, .int .u8 0, .int .i64 0, .int .i64 0, .int .i64 0] (by kernel_rfl) ?_; intro g2 w1 ge hh bb; have av_en_rb := en.av_new ge; have orb := Nat.le_trans bel.size ge; replace en := en.below bb; replace bel := bel.trans (bb.mono bel.size); have hrb := hh; clear hh ge bb; have R9 := Lib.hid (Sle.zrange0 en HX.out 9 [.int .i64 x.pr, .int .i64 x.o, .int .u8 (x.ad.a.toNat : Int), .int .u8 (x.ad.b.toNat : Int), .int .u8 (x.ad.c.toNat : Int), .int .u8 (x.ad.d.toNat : Int), .int .i64 x.i, .int .i64 x.k, .int .i64 x.u] rfl)) | ((with_reducible show wpList _ _ _ (⟨some 9, _, _, _, _, _⟩ :: _) _ _); refine wpList_load_rng 65 (.tmp 8) rfl (by kernel_rfl) _ _ rfl _ R9.out _ Tryz.underlying65 rfl (by kernel_rfl) ?_) | ((with_reducible show wpList _ _ _ (⟨none, Op.store _ (.tmp 2) _, _, _, _, _⟩ :: _) _ _); refine wpList_store_blk rfl 65 (.tmp 2) (.tmp 9) rfl g2 rfl _ rfl _ 65 hrb (by rfl) (by kernel_rfl) (by kernel_rfl) ?_; intro w2 hq gr; replace en := en.away av_en_rb gr; replace bel := below_grown bel gr orb bel.size; clear hrb; have hrb := hq; clear hq gr))
 try clear R9
 exact bodyPost_ret (results_cell_tmp_row rfl _ _ _ _ _ _ _ rfl hrb Tryz.underlying65 rfl (by kernel_rfl) (.bool true) rfl) rfl ⟨rfl, bel⟩
end Go.Proofs.YtbdaejodbcjmfaaGreat
