/- Neighbours as lists: where an address stands, what is added, who goes first. No program. -/
import Derived.Test.YtfghmckeogajnaaNr0
namespace Go.Proofs.Ytfghmckeogajnaa
open Go.RowKit

structure Ad4 where
  (a b c d : UInt8)
structure Mc6 where
  (a b c d e f : UInt8)
def Ad4.num (x : Ad4) : Nat := be [x.a, x.b, x.c, x.d]
theorem Ad4.lt (x : Ad4) : x.num < 4294967296 := be_lt 4 _ rfl
def Mc6.zero : Mc6 := ⟨0, 0, 0, 0, 0, 0⟩
/-- An entry: its address, its time, is it known, its hardware's address, the requests, what waits. -/
structure En where
  ad : Ad4
  t : Int
  k : Bool
  m : Mc6
  r : Int
  wA : Option Addr
  (wn wc : Nat)
def enE (e : En) : List Value := [.int .u8 (e.ad.a.toNat : Int), .int .u8 (e.ad.b.toNat : Int), .int .u8 (e.ad.c.toNat : Int), .int .u8 (e.ad.d.toNat : Int), .int .i64 e.t, .bool e.k, .int .u8 (e.m.a.toNat : Int), .int .u8 (e.m.b.toNat : Int), .int .u8 (e.m.c.toNat : Int), .int .u8 (e.m.d.toNat : Int), .int .u8 (e.m.e.toNat : Int), .int .u8 (e.m.f.toNat : Int), .int .i64 e.r, .slice e.wA e.wn e.wc]
theorem enE_len (e : En) : (enE e).length = 14 := rfl
theorem enE_one (e : En) : ∀ u ∈ enE e, u.oneCell' = true := by
  intro u hu
  simp only [enE, List.mem_cons, List.not_mem_nil, or_false] at hu
  rcases hu with h | h | h | h | h | h | h | h | h | h | h | h | h | h <;> rw [h] <;> rfl
def En.num (e : En) : Nat := e.ad.num
/-- Ascending. -/
def Srt (l : List En) : Prop := l.Pairwise (fun x y => x.num < y.num)
/-- Where an address stands, or would stand; does it stand there? -/
def fpos (l : List En) (x : Nat) : Nat := l.countP (fun e => decide (e.num < x))
def fhas (l : List En) (x : Nat) : Bool := match l[fpos l x]? with
  | some e => e.num == x
  | none => false
theorem fpos_le (l : List En) (x : Nat) : fpos l x ≤ l.length := List.countP_le_length
theorem fpos_of {l : List En} {x i : Nat} (hi : i ≤ l.length) (h1 : ∀ j e, j < i → l[j]? = some e → e.num < x) (h2 : ∀ j e, i ≤ j → l[j]? = some e → x ≤ e.num) : fpos l x = i := by
  unfold fpos
  have e : l = l.take i ++ l.drop i := (List.take_append_drop i l).symm
  rw [e, List.countP_append]
  have a1 : (l.take i).countP (fun e => decide (e.num < x)) = i := by
    have : (l.take i).countP (fun e => decide (e.num < x)) = (l.take i).length := by
      rw [List.countP_eq_length]
      intro y hy
      obtain ⟨j, hj⟩ := List.getElem?_of_mem hy
      rw [List.getElem?_take] at hj
      split at hj
      · simpa using h1 j y ‹_› hj
      · cases hj
    rw [this, List.length_take]; omega
  have a2 : (l.drop i).countP (fun e => decide (e.num < x)) = 0 := by
    rw [List.countP_eq_zero]
    intro y hy
    obtain ⟨j, hj⟩ := List.getElem?_of_mem hy
    rw [List.getElem?_drop] at hj
    have := h2 (i + j) y (by omega) hj
    simp; omega
  rw [a1, a2, Nat.add_zero]
theorem Srt.lt {l : List En} (h : Srt l) {i j : Nat} {x y : En} (hij : i < j) (hx : l[i]? = some x) (hy : l[j]? = some y) : x.num < y.num := by
  obtain ⟨h1, e1⟩ := List.getElem?_eq_some_iff.1 hx
  obtain ⟨h2, e2⟩ := List.getElem?_eq_some_iff.1 hy
  have := List.pairwise_iff_getElem.1 h i j h1 h2 hij
  rw [e1, e2] at this
  exact this
theorem Srt.before {l : List En} (h : Srt l) {x j : Nat} {e : En} (hj : j < fpos l x) (he : l[j]? = some e) : e.num < x := by
  rcases Nat.lt_or_ge e.num x with h1 | h1
  · exact h1
  · exfalso
    -- all from j on are not below x
    have hl := (List.getElem?_eq_some_iff.1 he).1
    have e2 : l = l.take j ++ l.drop j := (List.take_append_drop j l).symm
    have a2 : (l.drop j).countP (fun e => decide (e.num < x)) = 0 := by
      rw [List.countP_eq_zero]
      intro y hy
      obtain ⟨i, hi⟩ := List.getElem?_of_mem hy
      rw [List.getElem?_drop] at hi
      rcases Nat.eq_zero_or_pos i with h0 | h0
      · subst h0
        rw [Nat.add_zero, he] at hi
        cases hi
        simp; omega
      · have := h.lt (by omega : j < j + i) he hi
        simp; omega
    have a1 : (l.take j).countP (fun e => decide (e.num < x)) ≤ j := by
      have := List.countP_le_length (p := fun e => decide (En.num e < x)) (l := l.take j)
      rw [List.length_take] at this; omega
    have : fpos l x ≤ j := by
      unfold fpos
      rw [e2, List.countP_append, a2]; omega
    omega
theorem Srt.after {l : List En} (h : Srt l) {x j : Nat} {e : En} (hj : fpos l x ≤ j) (he : l[j]? = some e) : x ≤ e.num := by
  rcases Nat.lt_or_ge e.num x with h1 | h1
  · exfalso
    have hl := (List.getElem?_eq_some_iff.1 he).1
    have e2 : l = l.take (j + 1) ++ l.drop (j + 1) := (List.take_append_drop (j + 1) l).symm
    have a1 : (l.take (j + 1)).countP (fun e => decide (e.num < x)) = j + 1 := by
      have : (l.take (j + 1)).countP (fun e => decide (e.num < x)) = (l.take (j + 1)).length := by
        rw [List.countP_eq_length]
        intro y hy
        obtain ⟨i, hi⟩ := List.getElem?_of_mem hy
        rw [List.getElem?_take] at hi
        split at hi
        · rcases Nat.lt_or_ge i j with h0 | h0
          · have := h.lt h0 hi he
            simp; omega
          · obtain rfl : i = j := by omega
            rw [he] at hi
            cases hi
            simpa using h1
        · cases hi
      rw [this, List.length_take]; omega
    have : j + 1 ≤ fpos l x := by
      unfold fpos
      rw [e2, List.countP_append, a1]; omega
    omega
  · exact h1
theorem fhas_true {l : List En} {x : Nat} (h : fhas l x = true) : ∃ e, l[fpos l x]? = some e ∧ e.num = x := by
  unfold fhas at h
  cases he : l[fpos l x]? with
  | none => rw [he] at h; cases h
  | some e => rw [he] at h; exact ⟨e, rfl, by simpa using h⟩
theorem Srt.found {l : List En} (h : Srt l) {x j : Nat} {e : En} (he : l[j]? = some e) (hx : e.num = x) : fpos l x = j ∧ fhas l x = true := by
  have hp : fpos l x = j := by
    apply fpos_of
    · have := (List.getElem?_eq_some_iff.1 he).1; omega
    · intro i y hi hy
      have := h.lt hi hy he; omega
    · intro i y hi hy
      rcases Nat.lt_or_ge j i with h0 | h0
      · have := h.lt h0 he hy; omega
      · obtain rfl : i = j := by omega
        rw [he] at hy; cases hy; omega
  refine ⟨hp, ?_⟩
  unfold fhas
  rw [hp, he]
  simpa using hx
theorem Srt.none {l : List En} {x : Nat} (hx : ∀ e ∈ l, e.num ≠ x) : fhas l x = false := by
  cases hb : fhas l x with
  | false => rfl
  | true =>
    obtain ⟨e, he, hn⟩ := fhas_true hb
    exact absurd hn (hx e (List.mem_of_getElem? he))
/-- An entry is laid in its place. -/
def ins (l : List En) (e : En) : List En := l.take (fpos l e.num) ++ e :: l.drop (fpos l e.num)
theorem ins_len (l : List En) (e : En) : (ins l e).length = l.length + 1 := by
  have := fpos_le l e.num
  unfold ins
  simp; omega
theorem Srt.insd {l : List En} (h : Srt l) {e : En} (hn : fhas l e.num = false) : Srt (ins l e) := by
  unfold ins Srt
  rw [List.pairwise_append, List.pairwise_cons]
  have hne : ∀ y, l[fpos l e.num]? = some y → y.num ≠ e.num := fun y hy heq => by
    unfold fhas at hn
    rw [hy] at hn
    simp at hn
    exact hn heq
  have hgt : ∀ y ∈ l.drop (fpos l e.num), e.num < y.num := by
    intro y hy
    obtain ⟨i, hi⟩ := List.getElem?_of_mem hy
    rw [List.getElem?_drop] at hi
    have h1 := h.after (Nat.le_add_right _ i) hi
    rcases Nat.eq_zero_or_pos i with h0 | h0
    · subst h0
      rw [Nat.add_zero] at hi
      have := hne y hi; omega
    · have hp : fpos l e.num < l.length := by have := (List.getElem?_eq_some_iff.1 hi).1; omega
      have h2 := h.lt (by omega : fpos l e.num < fpos l e.num + i) (List.getElem?_eq_getElem hp) hi
      have h3 := h.after (Nat.le_refl _) (List.getElem?_eq_getElem hp)
      omega
  have hlt : ∀ y ∈ l.take (fpos l e.num), y.num < e.num := by
    intro y hy
    obtain ⟨i, hi⟩ := List.getElem?_of_mem hy
    rw [List.getElem?_take] at hi
    split at hi
    · exact h.before ‹_› hi
    · cases hi
  refine ⟨List.Pairwise.sublist (List.take_sublist _ _) h, ⟨hgt, List.Pairwise.sublist (List.drop_sublist _ _) h⟩, ?_⟩
  intro y hy z hz
  have h1 := hlt y hy
  rcases List.mem_cons.1 hz with rfl | hz
  · exact h1
  · have := hgt z hz; omega
theorem ins_mem {l : List En} {e x : En} (h : x ∈ ins l e) : x = e ∨ x ∈ l := by
  unfold ins at h
  rcases List.mem_append.1 h with h | h
  · exact .inr (List.mem_of_mem_take h)
  · rcases List.mem_cons.1 h with h | h
    · exact .inl h
    · exact .inr (List.mem_of_mem_drop h)
/-- Is one older than the eldest so far (and known)? -/
def eldB (l : List En) (a : Option Nat) (e : En) : Bool := e.k && (match a with
  | none => true
  | some i => match l[i]? with
    | none => false
    | some x => decide (e.t < x.t))
/-- Who of those known is the eldest, of the first j? -/
def eldF (l : List En) : Nat → Option Nat
  | 0 => none
  | j + 1 => match l[j]? with
    | none => eldF l j
    | some e => if eldB l (eldF l j) e = true then some j else eldF l j
theorem eldF_lt (l : List En) : ∀ j i, j ≤ l.length → eldF l j = some i → i < j := by
  intro j
  induction j with
  | zero => intro i _ h; cases h
  | succ j ih =>
    intro i hj h
    unfold eldF at h
    rw [List.getElem?_eq_getElem (by omega)] at h
    simp only at h
    by_cases hb : eldB l (eldF l j) l[j] = true
    · rw [if_pos hb] at h
      cases h; omega
    · rw [if_neg hb] at h
      have := ih i (by omega) h; omega
/-- What add does: the list behind it; was there room? -/
def addE (l : List En) (e : En) : List En × Bool := if 32 ≤ l.length then (match eldF l l.length with
    | none => (l, false)
    | some j => (ins (l.eraseIdx j) e, true)) else (ins l e, true)
theorem Srt.erase {l : List En} (h : Srt l) (j : Nat) : Srt (l.eraseIdx j) := List.Pairwise.sublist (List.eraseIdx_sublist _ _) h
theorem fhas_erase {l : List En} (h : Srt l) {x j : Nat} (hn : fhas l x = false) : fhas (l.eraseIdx j) x = false := Srt.none fun e he hx => by
  obtain ⟨i, hi⟩ := List.getElem?_of_mem (List.mem_of_mem_eraseIdx he)
  have := (h.found hi hx).2
  rw [hn] at this; cases this
theorem Srt.addE {l : List En} (h : Srt l) {e : En} (hn : fhas l e.num = false) : Srt (addE l e).1 := by
  unfold Go.Proofs.Ytfghmckeogajnaa.addE
  split
  · split
    · exact h
    · exact (h.erase _).insd (fhas_erase h hn)
  · exact h.insd hn
theorem addE_len {l : List En} {e : En} (h : l.length ≤ 32) : (addE l e).1.length ≤ 32 := by
  unfold addE
  split
  · split
    · exact h
    · rename_i j hj
      have := eldF_lt l _ _ (Nat.le_refl _) hj
      rw [ins_len, List.length_eraseIdx]
      split <;> omega
  · rw [ins_len]; omega
theorem addE_mem {l : List En} {e x : En} (h : x ∈ (addE l e).1) : x = e ∨ x ∈ l := by
  unfold addE at h
  split at h
  · split at h
    · exact .inr h
    · rcases ins_mem h with h | h
      · exact .inl h
      · exact .inr (List.mem_of_mem_eraseIdx h)
  · exact ins_mem h
/-- The clock. -/
def adv (now t : Int) : Int := if now < t ∧ t ≤ 1099511627776 then t else now
theorem adv_ge (now t : Int) : now ≤ adv now t := by unfold adv; split <;> omega
theorem adv_le {now t : Int} (h : now ≤ 1099511627776) : adv now t ≤ 1099511627776 := by unfold adv; split <;> omega
/-- An entry's times and counts are as they may be. -/
def En.ok (now : Int) (e : En) : Prop := 0 ≤ e.t ∧ e.t ≤ now ∧ 0 ≤ e.r ∧ e.r ≤ e.t + 1
theorem En.ok.le {now now' : Int} {e : En} (h : e.ok now) (hn : now ≤ now') : e.ok now' := ⟨h.1, by have := h.2.1; omega, h.2.2⟩
def tooOldB (age now : Int) (e : En) : Bool := e.k && decide (age ≤ now - e.t)
def givenUpB (now : Int) (e : En) : Bool := !e.k && (decide (3 ≤ e.r) && decide (1 ≤ now - e.t))
theorem Srt.set {l : List En} (h : Srt l) {i : Nat} {x y : En} (hx : l[i]? = some x) (hy : y.num = x.num) : Srt (l.set i y) := by
  unfold Srt
  rw [List.pairwise_iff_getElem]
  intro a b ha hb hab
  rw [List.length_set] at ha hb
  have e : ∀ c (hc : c < l.length), ((l.set i y)[c]'(by rw [List.length_set]; exact hc)).num = (l[c]).num := fun c hc => by
    rw [List.getElem_set]
    split
    · rename_i hic
      subst hic
      rw [hy]
      rw [List.getElem?_eq_getElem hc] at hx
      cases hx; rfl
    · rfl
  rw [e a ha, e b hb]
  exact List.pairwise_iff_getElem.1 h a b ha hb hab
end Go.Proofs.Ytfghmckeogajnaa
