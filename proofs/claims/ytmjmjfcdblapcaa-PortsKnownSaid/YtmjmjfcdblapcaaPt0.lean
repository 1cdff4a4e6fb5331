/- Mappings as lists, in ascending order of protocol and port; who has which; which is over. No program. -/
import Derived.Test.YtmjmjfcdblapcaaAdm
namespace Go.Proofs.Ytmjmjfcdblapcaa
open Go.RowKit

theorem be_inj4 {a b c d a' b' c' d' : UInt8} (h : be [a, b, c, d] = be [a', b', c', d']) : a = a' ∧ b = b' ∧ c = c' ∧ d = d' := by
  have e : ∀ p q r s : UInt8, be [p, q, r, s] = ((p.toNat * 256 + q.toNat) * 256 + r.toNat) * 256 + s.toNat := fun p q r s => by simp [be]
  rw [e, e] at h
  have h0 := a.toNat_lt; have h1 := b.toNat_lt; have h2 := c.toNat_lt; have h3 := d.toNat_lt
  have g0 := a'.toNat_lt; have g1 := b'.toNat_lt; have g2 := c'.toNat_lt; have g3 := d'.toNat_lt
  refine ⟨UInt8.toNat_inj.1 ?_, UInt8.toNat_inj.1 ?_, UInt8.toNat_inj.1 ?_, UInt8.toNat_inj.1 ?_⟩ <;> omega
theorem Ad4.num_inj {x y : Ad4} (h : x.num = y.num) : x = y := by
  obtain ⟨a, b, c, d⟩ := x
  obtain ⟨a', b', c', d'⟩ := y
  obtain ⟨rfl, rfl, rfl, rfl⟩ := be_inj4 h
  rfl
def Ad4.zero : Ad4 := ⟨0, 0, 0, 0⟩
def Ad4.l (x : Ad4) : List UInt8 := [x.a, x.b, x.c, x.d]
def Ad4.eqB (x y : Ad4) : Bool := x.l == y.l
theorem Ad4.eqB_iff {x y : Ad4} : x.eqB y = true ↔ x = y := by
  obtain ⟨a, b, c, d⟩ := x
  obtain ⟨a', b', c', d'⟩ := y
  simp [Ad4.eqB, Ad4.l]
theorem Ad4.eqB_self (x : Ad4) : x.eqB x = true := Ad4.eqB_iff.2 rfl
theorem Ad4.eqB_no {x y : Ad4} (h : x ≠ y) : x.eqB y = false := by
  cases e : x.eqB y with
  | false => rfl
  | true => exact absurd (Ad4.eqB_iff.1 e) h
/-- A mapping. -/
structure Mp where
  pr : Int
  o : Int
  ad : Ad4
  i : Int
  k : Int
  u : Int
def mpE (e : Mp) : List Value := [.int .i64 e.pr, .int .i64 e.o, .int .u8 (e.ad.a.toNat : Int), .int .u8 (e.ad.b.toNat : Int), .int .u8 (e.ad.c.toNat : Int), .int .u8 (e.ad.d.toNat : Int), .int .i64 e.i, .int .i64 e.k, .int .i64 e.u]
theorem mpE_len (e : Mp) : (mpE e).length = 9 := rfl
theorem mpE_one (e : Mp) : ∀ u ∈ mpE e, u.oneCell' = true := by
  intro u hu
  simp only [mpE, List.mem_cons, List.not_mem_nil, or_false] at hu
  rcases hu with h | h | h | h | h | h | h | h | h <;> rw [h] <;> rfl
/-- A port of a protocol as one number. -/
def kn (p o : Int) : Nat := (p * 65536 + o).toNat
def Mp.num (e : Mp) : Nat := kn e.pr e.o
def okP (p o : Int) : Prop := 0 ≤ p ∧ p ≤ 255 ∧ 0 ≤ o ∧ o ≤ 65535
def Mp.okp (e : Mp) : Prop := okP e.pr e.o
theorem kn_inj {p o q r : Int} (h : okP p o) (h' : okP q r) (e : kn p o = kn q r) : p = q ∧ o = r := by
  obtain ⟨h1, h2, h3, h4⟩ := h
  obtain ⟨g1, g2, g3, g4⟩ := h'
  unfold kn at e
  constructor <;> omega
def cmpN (x y : Nat) : Int := if x < y then -1 else if y < x then 1 else 0
theorem cmpN_lt (x y : Nat) : decide (cmpN x y < 0) = decide (x < y) := by
  unfold cmpN
  by_cases h : x < y
  · simp [h]
  · by_cases h2 : y < x <;> simp [h, h2]
theorem cmpN_eq (x y : Nat) : (cmpN x y == 0) = (x == y) := by
  unfold cmpN
  rcases Nat.lt_trichotomy x y with h | h | h
  · rw [if_pos h]; simp; omega
  · subst h; simp
  · rw [if_neg (by omega), if_pos h]; simp; omega
def cmpP (p o q r : Int) : Int := if p < q then -1 else if q < p then 1 else if o < r then -1 else if r < o then 1 else 0
theorem cmpP_num {p o q r : Int} (h : okP p o) (h' : okP q r) : cmpP p o q r = cmpN (kn p o) (kn q r) := by
  obtain ⟨h1, h2, h3, h4⟩ := h
  obtain ⟨g1, g2, g3, g4⟩ := h'
  unfold cmpP cmpN kn
  by_cases a : p < q
  · rw [if_pos a, if_pos (by omega)]
  · rw [if_neg a]
    by_cases b : q < p
    · rw [if_pos b, if_neg (by omega), if_pos (by omega)]
    · rw [if_neg b]
      by_cases c : o < r
      · rw [if_pos c, if_pos (by omega)]
      · rw [if_neg c]
        by_cases d : r < o
        · rw [if_pos d, if_neg (by omega), if_pos (by omega)]
        · rw [if_neg d, if_neg (by omega), if_neg (by omega)]
/-- Ascending. -/
def MSrt (l : List Mp) : Prop := l.Pairwise (fun x y => x.num < y.num)
/-- Where an address stands, or would stand; does it stand there? -/
def mfpos (l : List Mp) (x : Nat) : Nat := l.countP (fun e => decide (e.num < x))
def mfhas (l : List Mp) (x : Nat) : Bool := match l[mfpos l x]? with
  | some e => e.num == x
  | none => false
theorem mfpos_le (l : List Mp) (x : Nat) : mfpos l x ≤ l.length := List.countP_le_length
theorem mfpos_of {l : List Mp} {x i : Nat} (hi : i ≤ l.length) (h1 : ∀ j e, j < i → l[j]? = some e → e.num < x) (h2 : ∀ j e, i ≤ j → l[j]? = some e → x ≤ e.num) : mfpos l x = i := by
  unfold mfpos
  have e : l = l.take i ++ l.drop i := (List.take_append_drop i l).symm
  rw [e, List.countP_append]
  have a1 : (l.take i).countP (fun e => decide (e.num < x)) = i := by
    have : (l.take i).countP (fun e => decide (e.num < x)) = (l.take i).length := by
      rw [List.countP_eq_length]
      intro y hy
      obtain ⟨j, hj⟩ := List.getElem?_of_mem hy
      rw [List.getElem?_take] at hj
      split at hj
      · simpa using h1 j y ‹_› hj
      · cases hj
    rw [this, List.length_take]; omega
  have a2 : (l.drop i).countP (fun e => decide (e.num < x)) = 0 := by
    rw [List.countP_eq_zero]
    intro y hy
    obtain ⟨j, hj⟩ := List.getElem?_of_mem hy
    rw [List.getElem?_drop] at hj
    have := h2 (i + j) y (by omega) hj
    simp; omega
  rw [a1, a2, Nat.add_zero]
theorem MSrt.lt {l : List Mp} (h : MSrt l) {i j : Nat} {x y : Mp} (hij : i < j) (hx : l[i]? = some x) (hy : l[j]? = some y) : x.num < y.num := by
  obtain ⟨h1, e1⟩ := List.getElem?_eq_some_iff.1 hx
  obtain ⟨h2, e2⟩ := List.getElem?_eq_some_iff.1 hy
  have := List.pairwise_iff_getElem.1 h i j h1 h2 hij
  rw [e1, e2] at this
  exact this
theorem MSrt.before {l : List Mp} (h : MSrt l) {x j : Nat} {e : Mp} (hj : j < mfpos l x) (he : l[j]? = some e) : e.num < x := by
  rcases Nat.lt_or_ge e.num x with h1 | h1
  · exact h1
  · exfalso
    -- all from j on are not below x
    have hl := (List.getElem?_eq_some_iff.1 he).1
    have e2 : l = l.take j ++ l.drop j := (List.take_append_drop j l).symm
    have a2 : (l.drop j).countP (fun e => decide (e.num < x)) = 0 := by
      rw [List.countP_eq_zero]
      intro y hy
      obtain ⟨i, hi⟩ := List.getElem?_of_mem hy
      rw [List.getElem?_drop] at hi
      rcases Nat.eq_zero_or_pos i with h0 | h0
      · subst h0
        rw [Nat.add_zero, he] at hi
        cases hi
        simp; omega
      · have := h.lt (by omega : j < j + i) he hi
        simp; omega
    have a1 : (l.take j).countP (fun e => decide (e.num < x)) ≤ j := by
      have := List.countP_le_length (p := fun e => decide (Mp.num e < x)) (l := l.take j)
      rw [List.length_take] at this; omega
    have : mfpos l x ≤ j := by
      unfold mfpos
      rw [e2, List.countP_append, a2]; omega
    omega
theorem MSrt.after {l : List Mp} (h : MSrt l) {x j : Nat} {e : Mp} (hj : mfpos l x ≤ j) (he : l[j]? = some e) : x ≤ e.num := by
  rcases Nat.lt_or_ge e.num x with h1 | h1
  · exfalso
    have hl := (List.getElem?_eq_some_iff.1 he).1
    have e2 : l = l.take (j + 1) ++ l.drop (j + 1) := (List.take_append_drop (j + 1) l).symm
    have a1 : (l.take (j + 1)).countP (fun e => decide (e.num < x)) = j + 1 := by
      have : (l.take (j + 1)).countP (fun e => decide (e.num < x)) = (l.take (j + 1)).length := by
        rw [List.countP_eq_length]
        intro y hy
        obtain ⟨i, hi⟩ := List.getElem?_of_mem hy
        rw [List.getElem?_take] at hi
        split at hi
        · rcases Nat.lt_or_ge i j with h0 | h0
          · have := h.lt h0 hi he
            simp; omega
          · obtain rfl : i = j := by omega
            rw [he] at hi
            cases hi
            simpa using h1
        · cases hi
      rw [this, List.length_take]; omega
    have : j + 1 ≤ mfpos l x := by
      unfold mfpos
      rw [e2, List.countP_append, a1]; omega
    omega
  · exact h1
theorem mfhas_true {l : List Mp} {x : Nat} (h : mfhas l x = true) : ∃ e, l[mfpos l x]? = some e ∧ e.num = x := by
  unfold mfhas at h
  cases he : l[mfpos l x]? with
  | none => rw [he] at h; cases h
  | some e => rw [he] at h; exact ⟨e, rfl, by simpa using h⟩
theorem MSrt.found {l : List Mp} (h : MSrt l) {x j : Nat} {e : Mp} (he : l[j]? = some e) (hx : e.num = x) : mfpos l x = j ∧ mfhas l x = true := by
  have hp : mfpos l x = j := by
    apply mfpos_of
    · have := (List.getElem?_eq_some_iff.1 he).1; omega
    · intro i y hi hy
      have := h.lt hi hy he; omega
    · intro i y hi hy
      rcases Nat.lt_or_ge j i with h0 | h0
      · have := h.lt h0 he hy; omega
      · obtain rfl : i = j := by omega
        rw [he] at hy; cases hy; omega
  refine ⟨hp, ?_⟩
  unfold mfhas
  rw [hp, he]
  simpa using hx
theorem MSrt.none {l : List Mp} {x : Nat} (hx : ∀ e ∈ l, e.num ≠ x) : mfhas l x = false := by
  cases hb : mfhas l x with
  | false => rfl
  | true =>
    obtain ⟨e, he, hn⟩ := mfhas_true hb
    exact absurd hn (hx e (List.mem_of_getElem? he))
/-- An entry is laid in its place. -/
def mins (l : List Mp) (e : Mp) : List Mp := l.take (mfpos l e.num) ++ e :: l.drop (mfpos l e.num)
theorem mins_len (l : List Mp) (e : Mp) : (mins l e).length = l.length + 1 := by
  have := mfpos_le l e.num
  unfold mins
  simp; omega
theorem MSrt.insd {l : List Mp} (h : MSrt l) {e : Mp} (hn : mfhas l e.num = false) : MSrt (mins l e) := by
  unfold mins MSrt
  rw [List.pairwise_append, List.pairwise_cons]
  have hne : ∀ y, l[mfpos l e.num]? = some y → y.num ≠ e.num := fun y hy heq => by
    unfold mfhas at hn
    rw [hy] at hn
    simp at hn
    exact hn heq
  have hgt : ∀ y ∈ l.drop (mfpos l e.num), e.num < y.num := by
    intro y hy
    obtain ⟨i, hi⟩ := List.getElem?_of_mem hy
    rw [List.getElem?_drop] at hi
    have h1 := h.after (Nat.le_add_right _ i) hi
    rcases Nat.eq_zero_or_pos i with h0 | h0
    · subst h0
      rw [Nat.add_zero] at hi
      have := hne y hi; omega
    · have hp : mfpos l e.num < l.length := by have := (List.getElem?_eq_some_iff.1 hi).1; omega
      have h2 := h.lt (by omega : mfpos l e.num < mfpos l e.num + i) (List.getElem?_eq_getElem hp) hi
      have h3 := h.after (Nat.le_refl _) (List.getElem?_eq_getElem hp)
      omega
  have hlt : ∀ y ∈ l.take (mfpos l e.num), y.num < e.num := by
    intro y hy
    obtain ⟨i, hi⟩ := List.getElem?_of_mem hy
    rw [List.getElem?_take] at hi
    split at hi
    · exact h.before ‹_› hi
    · cases hi
  refine ⟨List.Pairwise.sublist (List.take_sublist _ _) h, ⟨hgt, List.Pairwise.sublist (List.drop_sublist _ _) h⟩, ?_⟩
  intro y hy z hz
  have h1 := hlt y hy
  rcases List.mem_cons.1 hz with rfl | hz
  · exact h1
  · have := hgt z hz; omega
theorem mins_mem {l : List Mp} {e x : Mp} (h : x ∈ mins l e) : x = e ∨ x ∈ l := by
  unfold mins at h
  rcases List.mem_append.1 h with h | h
  · exact .inr (List.mem_of_mem_take h)
  · rcases List.mem_cons.1 h with h | h
    · exact .inl h
    · exact .inr (List.mem_of_mem_drop h)
theorem MSrt.set {l : List Mp} (h : MSrt l) {i : Nat} {x y : Mp} (hx : l[i]? = some x) (hy : y.num = x.num) : MSrt (l.set i y) := by
  unfold MSrt
  rw [List.pairwise_iff_getElem]
  intro a b ha hb hab
  rw [List.length_set] at ha hb
  have e : ∀ c (hc : c < l.length), ((l.set i y)[c]'(by rw [List.length_set]; exact hc)).num = (l[c]).num := fun c hc => by
    rw [List.getElem_set]
    split
    · rename_i hic
      subst hic
      rw [hy]
      rw [List.getElem?_eq_getElem hc] at hx
      cases hx; rfl
    · rfl
  rw [e a ha, e b hb]
  exact List.pairwise_iff_getElem.1 h a b ha hb hab
/-- All ahead of i lie below x; all from j on do not. -/
def MBsLo (l : List Mp) (i x : Nat) : Prop := ∀ q e, q < i → l[q]? = some e → e.num < x
def MBsHi (l : List Mp) (j x : Nat) : Prop := ∀ q e, j ≤ q → l[q]? = some e → x ≤ e.num
theorem mbsLo_zero (l : List Mp) (x : Nat) : MBsLo l 0 x := fun _ _ h => absurd h (by omega)
theorem mbsHi_len (l : List Mp) (x : Nat) : MBsHi l l.length x := fun q e h he => by have := (List.getElem?_eq_some_iff.1 he).1; omega
theorem MBsLo.step {l : List Mp} (hs : MSrt l) {q x : Nat} {e : Mp} (he : l[q]? = some e) (h : e.num < x) : MBsLo l (q + 1) x := fun i y hi hy => by
  rcases Nat.lt_or_ge i q with h0 | h0
  · have := hs.lt h0 hy he; omega
  · obtain rfl : i = q := by omega
    rw [he] at hy; cases hy; exact h
theorem MBsHi.step {l : List Mp} (hs : MSrt l) {q x : Nat} {e : Mp} (he : l[q]? = some e) (h : x ≤ e.num) : MBsHi l q x := fun i y hi hy => by
  rcases Nat.lt_or_ge q i with h0 | h0
  · have := hs.lt h0 he hy; omega
  · obtain rfl : i = q := by omega
    rw [he] at hy; cases hy; exact h
theorem mbs_at {l : List Mp} {i x : Nat} (hi : i ≤ l.length) (h1 : MBsLo l i x) (h2 : MBsHi l i x) : mfpos l x = i := mfpos_of hi h1 h2
theorem mfhas_at {l : List Mp} {i x : Nat} {e : Mp} (hp : mfpos l x = i) (he : l[i]? = some e) : mfhas l x = (e.num == x) := by
  unfold mfhas; rw [hp, he]
theorem mfhas_end {l : List Mp} {x : Nat} (hp : mfpos l x = l.length) : mfhas l x = false := by
  unfold mfhas; rw [hp, List.getElem?_eq_none (Nat.le_refl _)]
theorem mmap_modify {l : List Mp} {i : Nat} {f : Mp → Mp} (h : ∀ x, l[i]? = some x → (f x).num = x.num) : (l.modify i f).map Mp.num = l.map Mp.num := by
  apply List.ext_getElem?
  intro j
  rw [List.getElem?_map, List.getElem?_map, List.getElem?_modify]
  cases hj : l[j]? with
  | none => simp
  | some x =>
    by_cases e : i = j
    · subst e; simp [h x hj]
    · simp [e]
theorem mmap_set {l : List Mp} {i : Nat} {x y : Mp} (hx : l[i]? = some x) (h : y.num = x.num) : (l.set i y).map Mp.num = l.map Mp.num := by
  apply List.ext_getElem?
  intro j
  rw [List.getElem?_map, List.getElem?_map, List.getElem?_set]
  by_cases e : i = j
  · subst e
    have hi := (List.getElem?_eq_some_iff.1 hx).1
    rw [if_pos rfl, if_pos hi, hx]
    simp [h]
  · rw [if_neg e]
theorem mmodify_at {l : List Mp} {i : Nat} {x : Mp} {f : Mp → Mp} (hx : l[i]? = some x) : l.modify i f = l.set i (f x) := by
  apply List.ext_getElem?
  intro j
  rw [List.getElem?_modify, List.getElem?_set]
  have hi := (List.getElem?_eq_some_iff.1 hx).1
  by_cases e : i = j
  · subst e
    rw [if_pos rfl, if_pos hi, hx]
    simp
  · rw [if_neg e]
    simp [e]
/-- The clock. -/
def padv (now t : Int) : Int := if now < t ∧ t ≤ 1099511627776 then t else now
theorem padv_ge (now t : Int) : now ≤ padv now t := by unfold padv; split <;> omega
theorem padv_le {now t : Int} (h : now ≤ 1099511627776) : padv now t ≤ 1099511627776 := by unfold padv; split <;> omega
def portB (p n : Int) : Bool := if p = 1 then decide (0 ≤ n) && decide (n ≤ 65535) else if p = 6 ∨ p = 17 then decide (1 ≤ n) && decide (n ≤ 65535) else false
theorem portB_ok {p n : Int} (h : portB p n = true) : okP p n := by
  unfold portB at h
  unfold okP
  split at h
  · simp at h; omega
  · split at h
    · simp at h; omega
    · cases h
def secsB (s : Int) : Bool := decide (1 ≤ s) && decide (s ≤ 1000000000)
def kindB (k u : Int) : Bool := !(decide (k < 2) || (decide (4 < k) || ((k == 4) && !(u == 0))))
def permB (m : Mp) : Bool := kindB m.k m.u && (portB m.pr m.o && portB m.pr m.i)
theorem permB_okp {m : Mp} (h : permB m = true) : m.okp := by
  unfold permB at h
  simp only [Bool.and_eq_true] at h
  exact portB_ok h.2.1
def liveB (now : Int) (m : Mp) : Bool := (m.k == 4) || decide (now < m.u)
def extB (m x : Mp) : Bool := (m.k == x.k) && (m.ad.eqB x.ad && (m.i == x.i))
def forB (pr : Int) (ad : Ad4) (p : Int) (m : Mp) : Bool := (m.pr == pr) && (m.ad.eqB ad && (m.i == p))
def Mp.rank (m : Mp) : Int := if m.k = 4 then 0 else m.k
/-- Those that are over: one for each port. -/
def oput (os : List Mp) (m : Mp) : List Mp := if os.any (fun e => e.num == m.num) = true then os.map (fun e => if e.num = m.num then m else e) else os ++ [m]
def odel (os : List Mp) (x : Nat) : List Mp := os.filter (fun e => !(e.num == x))
def ofind (os : List Mp) (x : Nat) : Option Mp := os.find? (fun e => e.num == x)
structure OsOk (os : List Mp) : Prop where
  okp : ∀ e ∈ os, e.okp
  nd : os.Pairwise (fun x y => x.num ≠ y.num)
theorem OsOk.nil : OsOk [] := ⟨fun e h => (by cases h), List.Pairwise.nil⟩
theorem OsOk.del {os : List Mp} (h : OsOk os) (x : Nat) : OsOk (odel os x) := ⟨fun e he => h.okp e (List.mem_filter.1 he).1, h.nd.filter _⟩
theorem OsOk.put {os : List Mp} (h : OsOk os) {m : Mp} (hm : m.okp) : OsOk (oput os m) := by
  unfold oput
  split
  · refine ⟨fun e he => ?_, ?_⟩
    · obtain ⟨x, hx, rfl⟩ := List.mem_map.1 he
      split
      · exact hm
      · exact h.okp x hx
    · rw [List.pairwise_map]
      refine h.nd.imp fun {x y} hxy => ?_
      split
      · rename_i h1
        split
        · rename_i h2; omega
        · rename_i h2; exact fun e => h2 e.symm
      · split
        · rename_i h1 h2; exact fun e => h1 (e.trans rfl)
        · exact hxy
  · rename_i hn
    refine ⟨fun e he => ?_, ?_⟩
    · rcases List.mem_append.1 he with he | he
      · exact h.okp e he
      · rw [List.mem_singleton.1 he]; exact hm
    · rw [List.pairwise_append]
      refine ⟨h.nd, List.pairwise_singleton _ _, fun x hx y hy => ?_⟩
      rw [List.mem_singleton.1 hy]
      intro e
      exact hn (List.any_eq_true.2 ⟨x, hx, by simpa using e⟩)
/-- What a table holds: its least port, its room, its clock, what is live, what is over. -/
structure Ts where
  lw : Int
  rm : Int
  now : Int
  l : List Mp
  os : List Mp
def deadB (t : Int) (e : Mp) : Bool := !liveB t e
def overs (l : List Mp) (t : Int) (os : List Mp) : List Mp := (l.filter (deadB t)).foldl oput os
def advS (s : Ts) (t : Int) : Ts := { s with now := t, l := s.l.filter (liveB t), os := overs s.l t s.os }
def Ts.adv (s : Ts) (t : Int) : Ts := if s.now < t ∧ t ≤ 1099511627776 then advS s t else s
structure Ts.ok (s : Ts) : Prop where
  srt : MSrt s.l
  okp : ∀ e ∈ s.l, e.okp
  n0 : 0 ≤ s.now
  n1 : s.now ≤ 1099511627776
  l0 : 1024 ≤ s.lw
  l1 : s.lw ≤ 60000
  r0 : 1 ≤ s.rm
  r1 : s.rm ≤ 128
  len : (s.l.length : Int) ≤ s.rm
theorem overs_ok {l : List Mp} {t : Int} (hl : ∀ e ∈ l, e.okp) : ∀ {os : List Mp}, OsOk os → OsOk (overs l t os) := by
  unfold overs
  have : ∀ (q : List Mp), (∀ e ∈ q, e.okp) → ∀ {os : List Mp}, OsOk os → OsOk (q.foldl oput os) := by
    intro q
    induction q with
    | nil => intro _ os h; exact h
    | cons x q ih => intro hq os h; exact ih (fun e he => hq e (List.mem_cons_of_mem _ he)) (h.put (hq x (by simp)))
  intro os h
  exact this _ (fun e he => hl e (List.mem_filter.1 he).1) h
theorem Ts.ok.adv {s : Ts} (h : s.ok) (t : Int) : (s.adv t).ok := by
  unfold Ts.adv
  split
  · rename_i hc
    obtain ⟨h1, h2⟩ := hc
    have hl : (s.l.filter (liveB t)).length ≤ s.l.length := List.length_filter_le _ _
    exact ⟨List.Pairwise.sublist List.filter_sublist h.srt, fun e he => h.okp e (List.mem_filter.1 he).1, by have := h.n0; show 0 ≤ t; omega, h2, h.l0, h.l1, h.r0, h.r1, by have := h.len; show ((s.l.filter (liveB t)).length : Int) ≤ s.rm; omega⟩
  · exact h
theorem Ts.ok.set {s : Ts} (h : s.ok) {i : Nat} {x y : Mp} (hx : s.l[i]? = some x) (hy1 : y.pr = x.pr) (hy2 : y.o = x.o) : ({ s with l := s.l.set i y } : Ts).ok := by
  refine ⟨h.srt.set hx (by show kn y.pr y.o = kn x.pr x.o; rw [hy1, hy2]), fun e he => ?_, h.n0, h.n1, h.l0, h.l1, h.r0, h.r1, by show ((s.l.set i y).length : Int) ≤ s.rm; rw [List.length_set]; exact h.len⟩
  rcases List.mem_or_eq_of_mem_set he with h1 | h1
  · exact h.okp e h1
  · rw [h1]
    have := h.okp x (List.mem_of_getElem? hx)
    unfold Mp.okp at *
    rw [hy1, hy2]; exact this
theorem Ts.ok.ins {s : Ts} (h : s.ok) {m : Mp} (hm : m.okp) (hn : mfhas s.l m.num = false) (hr : (s.l.length : Int) < s.rm) (os : List Mp) : ({ s with l := mins s.l m, os := os } : Ts).ok := by
  refine ⟨h.srt.insd hn, fun e he => ?_, h.n0, h.n1, h.l0, h.l1, h.r0, h.r1, by show ((mins s.l m).length : Int) ≤ s.rm; rw [mins_len]; omega⟩
  rcases mins_mem he with h1 | h1
  · rw [h1]; exact hm
  · exact h.okp e h1
theorem Ts.ok.fil {s : Ts} (h : s.ok) (p : Mp → Bool) (os : List Mp) : ({ s with l := s.l.filter p, os := os } : Ts).ok := by
  have hl : (s.l.filter p).length ≤ s.l.length := List.length_filter_le _ _
  exact ⟨List.Pairwise.sublist List.filter_sublist h.srt, fun e he => h.okp e (List.mem_filter.1 he).1, h.n0, h.n1, h.l0, h.l1, h.r0, h.r1, by have := h.len; show ((s.l.filter p).length : Int) ≤ s.rm; omega⟩
theorem Ts.ok.era {s : Ts} (h : s.ok) (i : Nat) : ({ s with l := s.l.eraseIdx i } : Ts).ok := by
  have hl : (s.l.eraseIdx i).length ≤ s.l.length := List.length_eraseIdx_le _ _
  exact ⟨List.Pairwise.sublist (List.eraseIdx_sublist _ _) h.srt, fun e he => h.okp e ((List.eraseIdx_sublist _ _).subset he), h.n0, h.n1, h.l0, h.l1, h.r0, h.r1, by have := h.len; show ((s.l.eraseIdx i).length : Int) ≤ s.rm; omega⟩
theorem Ts.ok.oss {s : Ts} (h : s.ok) (os : List Mp) : ({ s with os := os } : Ts).ok := ⟨h.srt, h.okp, h.n0, h.n1, h.l0, h.l1, h.r0, h.r1, h.len⟩
/-- Where a port stands that is there. -/
theorem mfhas_ex {l : List Mp} {x : Nat} (h : mfhas l x = true) : ∃ (i : Nat) (e : Mp), mfpos l x = i ∧ l[i]? = some e ∧ e.num = x := by
  obtain ⟨e, he, hn⟩ := mfhas_true h
  exact ⟨_, e, rfl, he, hn⟩
theorem MSrt.has_iff {l : List Mp} (h : MSrt l) {x : Nat} : mfhas l x = true ↔ ∃ e ∈ l, e.num = x := by
  constructor
  · intro hh
    obtain ⟨e, he, hn⟩ := mfhas_true hh
    exact ⟨e, List.mem_of_getElem? he, hn⟩
  · rintro ⟨e, he, hn⟩
    obtain ⟨j, hj⟩ := List.getElem?_of_mem he
    exact (h.found hj hn).2
/-- Is one better for a flow than the best so far? -/
def betB (pr : Int) (ad : Ad4) (p : Int) (l : List Mp) (a : Option Nat) (e : Mp) : Bool := forB pr ad p e && (match a with
  | none => true
  | some i => match l[i]? with
    | none => false
    | some x => decide (e.rank < x.rank))
/-- The best one for a flow of the first j. -/
def bestF (pr : Int) (ad : Ad4) (p : Int) (l : List Mp) : Nat → Option Nat
  | 0 => none
  | j + 1 => match l[j]? with
    | none => bestF pr ad p l j
    | some e => if betB pr ad p l (bestF pr ad p l j) e = true then some j else bestF pr ad p l j
theorem bestF_lt (pr : Int) (ad : Ad4) (p : Int) (l : List Mp) : ∀ j i, j ≤ l.length → bestF pr ad p l j = some i → i < j := by
  intro j
  induction j with
  | zero => intro i _ h; cases h
  | succ j ih =>
    intro i hj h
    unfold bestF at h
    rw [List.getElem?_eq_getElem (by omega)] at h
    simp only at h
    by_cases hb : betB pr ad p l (bestF pr ad p l j) l[j] = true
    · rw [if_pos hb] at h
      cases h; omega
    · rw [if_neg hb] at h
      have := ih i (by omega) h; omega
theorem bestF_for (pr : Int) (ad : Ad4) (p : Int) (l : List Mp) : ∀ j i, j ≤ l.length → bestF pr ad p l j = some i → ∃ x, l[i]? = some x ∧ forB pr ad p x = true := by
  intro j
  induction j with
  | zero => intro i _ h; cases h
  | succ j ih =>
    intro i hj h
    unfold bestF at h
    rw [List.getElem?_eq_getElem (by omega)] at h
    simp only at h
    by_cases hb : betB pr ad p l (bestF pr ad p l j) l[j] = true
    · rw [if_pos hb] at h
      cases h
      refine ⟨_, List.getElem?_eq_getElem (by omega), ?_⟩
      unfold betB at hb
      simp only [Bool.and_eq_true] at hb
      exact hb.1
    · rw [if_neg hb] at h
      exact ih i (by omega) h
theorem bestF_nil {pr : Int} {ad : Ad4} {p : Int} {l : List Mp} (h : ∀ e ∈ l, forB pr ad p e = false) : ∀ j, bestF pr ad p l j = none := by
  intro j
  induction j with
  | zero => rfl
  | succ j ih =>
    unfold bestF
    cases he : l[j]? with
    | none => exact ih
    | some e =>
      simp only
      have := h e (List.mem_of_getElem? he)
      rw [if_neg (by unfold betB; rw [this]; simp)]
      exact ih
end Go.Proofs.Ytmjmjfcdblapcaa
