/- Names as lists of labels, their bytes and their texts: of no program. -/
import Derived.Test.YtholgadifhjmgaaDoorMem
namespace Go.Proofs.YtholgadifhjmgaaDoor

/-- How many bytes the labels of a name take. -/
def sizeN : List (List UInt8) → Nat
  | [] => 0
  | x :: l => 1 + x.length + sizeN l
def okL (x : List UInt8) : Bool := decide (1 ≤ x.length ∧ x.length ≤ 63)
def goodN (l : List (List UInt8)) : Bool := l.all okL && decide (1 + sizeN l ≤ 255)
def encL : List (List UInt8) → List UInt8
  | [] => []
  | x :: l => byteOf (x.length : Int) :: (x ++ encL l)
def putN (l : List (List UInt8)) : List UInt8 := encL l ++ [0]
theorem size_app (a b : List (List UInt8)) : sizeN (a ++ b) = sizeN a + sizeN b := by
  induction a with
  | nil => simp [sizeN]
  | cons x a ih => rw [List.cons_append, sizeN, sizeN, ih]; omega
theorem enc_app (a b : List (List UInt8)) : encL (a ++ b) = encL a ++ encL b := by
  induction a with
  | nil => rfl
  | cons x a ih => rw [List.cons_append, encL, encL, ih, List.cons_append, List.append_assoc]
theorem enc_len (l : List (List UInt8)) : (encL l).length = sizeN l := by
  induction l with
  | nil => rfl
  | cons x l ih => rw [encL, sizeN, List.length_cons, List.length_append, ih]; omega
theorem take_next {α : Type} {l : List α} {i : Nat} {x : α} (h : l[i]? = some x) : l.take (i + 1) = l.take i ++ [x] := by rw [List.take_add_one, h]; rfl
theorem take_full {α : Type} {l : List α} {i : Nat} (h : ¬ i < l.length) : l.take i = l := List.take_of_length_le (by omega)
theorem size_next {l : List (List UInt8)} {i : Nat} {x : List UInt8} (h : l[i]? = some x) : sizeN (l.take (i + 1)) = sizeN (l.take i) + (1 + x.length) := by rw [take_next h, size_app]; simp [sizeN]
theorem enc_next {l : List (List UInt8)} {i : Nat} {x : List UInt8} (h : l[i]? = some x) : encL (l.take (i + 1)) = encL (l.take i) ++ byteOf (x.length : Int) :: x := by rw [take_next h, enc_app]; simp [encL]
theorem size_mem {l : List (List UInt8)} {x : List UInt8} (h : x ∈ l) : 1 + x.length ≤ sizeN l := by
  induction l with
  | nil => cases h
  | cons y l ih =>
    rw [sizeN]
    rcases List.mem_cons.1 h with rfl | h
    · omega
    · have := ih h; omega
theorem size_take (l : List (List UInt8)) (i : Nat) : sizeN (l.take i) ≤ sizeN l := by
  have := size_app (l.take i) (l.drop i)
  rw [List.take_append_drop] at this
  omega
theorem size_ge (l : List (List UInt8)) : l.length ≤ sizeN l := by
  induction l with
  | nil => simp
  | cons x l ih => rw [sizeN, List.length_cons]; omega
theorem size_ge2 {l : List (List UInt8)} (h : ∀ x ∈ l, okL x = true) : 2 * l.length ≤ sizeN l := by
  induction l with
  | nil => simp
  | cons x l ih =>
    rw [sizeN, List.length_cons]
    have h1 := ih fun y hy => h y (by simp [hy])
    have h2 := of_decide_eq_true (h x (by simp))
    omega
theorem size_le {l : List (List UInt8)} {n : Nat} (h : ∀ x ∈ l, x.length ≤ n) : sizeN l ≤ l.length * (n + 1) := by
  induction l with
  | nil => simp [sizeN]
  | cons x l ih =>
    rw [sizeN, List.length_cons, Nat.succ_mul]
    have h1 := ih fun y hy => h y (by simp [hy])
    have h2 := h x (by simp)
    omega
theorem good_all {l : List (List UInt8)} (h : goodN l = true) : ∀ x ∈ l, 1 ≤ x.length ∧ x.length ≤ 63 := fun x hx => by
  have := (Bool.and_eq_true _ _ ▸ h).1
  exact of_decide_eq_true (List.all_eq_true.1 this x hx)
theorem good_size {l : List (List UInt8)} (h : goodN l = true) : 1 + sizeN l ≤ 255 := of_decide_eq_true (Bool.and_eq_true _ _ ▸ h).2
theorem good_of {l : List (List UInt8)} (h1 : ∀ x ∈ l, 1 ≤ x.length ∧ x.length ≤ 63) (h2 : 1 + sizeN l ≤ 255) : goodN l = true := by
  unfold goodN
  rw [Bool.and_eq_true, List.all_eq_true]
  exact ⟨fun x hx => decide_eq_true (h1 x hx), decide_eq_true h2⟩
theorem good_not {l : List (List UInt8)} {i : Nat} {x : List UInt8} (h : l[i]? = some x) (hx : okL x = false) : goodN l = false := by
  unfold goodN
  rw [Bool.and_eq_false_iff]
  left
  rw [List.all_eq_false]
  exact ⟨x, List.mem_of_getElem? h, by rw [hx]; decide⟩
theorem good_end {l : List (List UInt8)} (h : ∀ x ∈ l, okL x = true) : goodN l = decide (1 + sizeN l ≤ 255) := by
  unfold goodN
  rw [List.all_eq_true.2 h, Bool.true_and]
theorem ok_next {l : List (List UInt8)} {i : Nat} {x : List UInt8} (h : ∀ y ∈ l.take i, okL y = true) (hi : l[i]? = some x) (hx : okL x = true) : ∀ y ∈ l.take (i + 1), okL y = true := by
  rw [take_next hi]
  intro y hy
  rcases List.mem_append.1 hy with h1 | h1
  · exact h y h1
  · rw [List.mem_singleton.1 h1]; exact hx
theorem ok_end {l : List (List UInt8)} {i : Nat} (h : ∀ y ∈ l.take i, okL y = true) (hi : ¬ i < l.length) : ∀ y ∈ l, okL y = true := by rwa [take_full hi] at h
theorem good_many {l : List (List UInt8)} {i : Nat} (h : ∀ y ∈ l.take i, okL y = true) (hi : i < l.length) (h127 : 127 < i) : goodN l = false := by
  unfold goodN
  rw [Bool.and_eq_false_iff]
  right
  have h1 := size_ge2 h
  have h2 := size_take l i
  rw [List.length_take] at h1
  exact decide_eq_false (by omega)
theorem good_app {a b : List (List UInt8)} (h : goodN (a ++ b) = true) : sizeN a + sizeN b ≤ 254 := by
  have := good_size h
  rw [size_app] at this
  omega

/-- Where a lead leads to. -/
def leadTo (c d : UInt8) : Nat := (c.toNat - 192) * 256 + d.toNat
/-- A name's labels, the place behind it, the error: k more steps at most. -/
def getF : Nat → List UInt8 → Nat → Nat → Nat → List (List UInt8) → Nat → List (List UInt8) × Nat × Nat
  | 0, _, _, _, _, _, _ => ([], 0, 4)
  | k + 1, b, a, nx, p, ls, sz =>
    match b[a]? with
    | none => ([], 0, 3)
    | some c =>
      if c.toNat = 0 then (ls, if p = 0 then a + 1 else nx, 0)
      else if c.toNat ≤ 63 then
        if b.length < a + (1 + c.toNat) then ([], 0, 3)
        else if 255 < sz + (1 + c.toNat) then ([], 0, 4)
        else getF k b (a + (1 + c.toNat)) nx p (ls ++ [(b.drop (a + 1)).take c.toNat]) (sz + (1 + c.toNat))
      else if c.toNat < 192 then ([], 0, 4)
      else match b[a + 1]? with
        | none => ([], 0, 3)
        | some d => if a ≤ leadTo c d ∨ 64 ≤ p then ([], 0, 4) else getF k b (leadTo c d) (if p = 0 then a + 2 else nx) (p + 1) ls sz
def getN (b : List UInt8) (i : Int) : List (List UInt8) × Nat × Nat := if i < 0 then ([], 0, 3) else getF 400 b i.toNat 0 0 [] 1
section
variable {k : Nat} {b : List UInt8} {a nx p sz : Nat} {ls : List (List UInt8)} {c d : UInt8}
theorem getF_out (h : b.length ≤ a) : getF (k + 1) b a nx p ls sz = ([], 0, 3) := by
  rw [getF, List.getElem?_eq_none h]
theorem getF_end (h : b[a]? = some c) (hc : c.toNat = 0) : getF (k + 1) b a nx p ls sz = (ls, if p = 0 then a + 1 else nx, 0) := by
  rw [getF, h]; simp only [hc, if_true]
theorem getF_cut (h : b[a]? = some c) (h0 : c.toNat ≠ 0) (h1 : c.toNat ≤ 63) (h2 : b.length < a + (1 + c.toNat)) : getF (k + 1) b a nx p ls sz = ([], 0, 3) := by
  rw [getF, h]; simp only [if_neg h0, if_pos h1, if_pos h2]
theorem getF_long (h : b[a]? = some c) (h0 : c.toNat ≠ 0) (h1 : c.toNat ≤ 63) (h2 : ¬ b.length < a + (1 + c.toNat)) (h3 : 255 < sz + (1 + c.toNat)) : getF (k + 1) b a nx p ls sz = ([], 0, 4) := by
  rw [getF, h]; simp only [if_neg h0, if_pos h1, if_neg h2, if_pos h3]
theorem getF_label (h : b[a]? = some c) (h0 : c.toNat ≠ 0) (h1 : c.toNat ≤ 63) (h2 : ¬ b.length < a + (1 + c.toNat)) (h3 : ¬ 255 < sz + (1 + c.toNat)) :
    getF (k + 1) b a nx p ls sz = getF k b (a + (1 + c.toNat)) nx p (ls ++ [(b.drop (a + 1)).take c.toNat]) (sz + (1 + c.toNat)) := by
  rw [getF, h]; simp only [if_neg h0, if_pos h1, if_neg h2, if_neg h3]
theorem getF_form (h : b[a]? = some c) (h1 : ¬ c.toNat ≤ 63) (h2 : c.toNat < 192) : getF (k + 1) b a nx p ls sz = ([], 0, 4) := by
  rw [getF, h]; simp only [if_neg (show ¬ c.toNat = 0 by omega), if_neg h1, if_pos h2]
theorem getF_half (h : b[a]? = some c) (h2 : ¬ c.toNat < 192) (hd : b.length ≤ a + 1) : getF (k + 1) b a nx p ls sz = ([], 0, 3) := by
  rw [getF, h]; simp only [if_neg (show ¬ c.toNat = 0 by omega), if_neg (show ¬ c.toNat ≤ 63 by omega), if_neg h2, List.getElem?_eq_none hd]
theorem getF_bad (h : b[a]? = some c) (h2 : ¬ c.toNat < 192) (hd : b[a + 1]? = some d) (h3 : a ≤ leadTo c d ∨ 64 ≤ p) : getF (k + 1) b a nx p ls sz = ([], 0, 4) := by
  rw [getF, h]; simp only [if_neg (show ¬ c.toNat = 0 by omega), if_neg (show ¬ c.toNat ≤ 63 by omega), if_neg h2, hd, if_pos h3]
theorem getF_lead (h : b[a]? = some c) (h2 : ¬ c.toNat < 192) (hd : b[a + 1]? = some d) (h3 : ¬ (a ≤ leadTo c d ∨ 64 ≤ p)) :
    getF (k + 1) b a nx p ls sz = getF k b (leadTo c d) (if p = 0 then a + 2 else nx) (p + 1) ls sz := by
  rw [getF, h]; simp only [if_neg (show ¬ c.toNat = 0 by omega), if_neg (show ¬ c.toNat ≤ 63 by omega), if_neg h2, hd, if_neg h3]
end
theorem byteOf_nat {n : Nat} (h : n < 256) : (byteOf (n : Int)).toNat = n := by
  have := byteOf_val (n : Int)
  omega
/-- Labels that stand as they are written are read. -/
theorem getF_run : ∀ (l : List (List UInt8)) (k : Nat) (pre r : List UInt8) (nx p sz : Nat) (ls : List (List UInt8)), (∀ x ∈ l, 1 ≤ x.length ∧ x.length ≤ 63) → sz + sizeN l ≤ 255 →
    getF (k + l.length) (pre ++ (encL l ++ r)) pre.length nx p ls sz = getF k (pre ++ (encL l ++ r)) (pre ++ encL l).length nx p (ls ++ l) (sz + sizeN l)
  | [], k, pre, r, nx, p, sz, ls, _, _ => by simp [encL, sizeN]
  | x :: l, k, pre, r, nx, p, sz, ls, h, hs => by
    have hx := h x (by simp)
    have hc := byteOf_nat (n := x.length) (by omega)
    rw [sizeN] at hs ⊢
    have e1 : pre ++ (encL (x :: l) ++ r) = (pre ++ byteOf (x.length : Int) :: x) ++ (encL l ++ r) := by simp [encL]
    have e2 : (pre ++ byteOf (x.length : Int) :: x).length = pre.length + (1 + x.length) := by simp; omega
    have hb : (pre ++ (encL (x :: l) ++ r))[pre.length]? = some (byteOf (x.length : Int)) := by rw [List.getElem?_append_right (Nat.le_refl _)]; simp [encL]
    rw [show k + (x :: l).length = (k + l.length) + 1 by simp; omega, getF_label hb (by omega) (by omega) (by rw [e1, List.length_append, e2]; omega) (by omega)]
    have e3 : ((pre ++ (encL (x :: l) ++ r)).drop (pre.length + 1)).take (byteOf (x.length : Int)).toNat = x := by
      rw [hc, ← List.drop_drop, List.drop_left']
      · simp [encL]
      · rfl
    rw [e3, hc, ← e2, e1]
    have ih := getF_run l k (pre ++ byteOf (x.length : Int) :: x) r nx p (sz + (1 + x.length)) (ls ++ [x]) (fun y hy => h y (by simp [hy])) (by omega)
    rw [ih]
    congr 1
    · simp [encL]
    · simp
    · omega
theorem getN_put {b : List UInt8} {l : List (List UInt8)} (h : goodN l = true) : getN (b ++ putN l) (b.length : Int) = (l, (b ++ putN l).length, 0) := by
  have h1 := good_all h
  have h2 := good_size h
  have h3 := size_ge l
  unfold getN putN
  rw [if_neg (by omega), Int.toNat_natCast]
  have e := getF_run l (400 - l.length) b [0] 0 0 1 [] h1 h2
  rw [show 400 - l.length + l.length = 400 by omega] at e
  rw [e, show 400 - l.length = (399 - l.length) + 1 by omega, getF_end (c := 0) (by rw [← List.append_assoc, List.getElem?_append_right (Nat.le_refl _)]; simp) rfl]
  simp
  omega
/-- A name that ends in a lead to a name that stands ahead of it. -/
theorem getN_lead {a b : List (List UInt8)} (ha : goodN a = true) (hb : goodN b = true) (hab : goodN (a ++ b) = true) (x y : List UInt8) (hx : x = 7 :: putN b) (hy : y = x ++ (encL a ++ [192, 1])) :
    getN y (x.length : Int) = (a ++ b, y.length, 0) := by
  have h1 := good_all ha
  have h2 := good_size ha
  have h3 := size_ge a
  have h4 := size_ge b
  have h5 := good_app hab
  have hxl : x.length = sizeN b + 2 := by rw [hx, putN, List.length_cons, List.length_append, enc_len]; rfl
  unfold getN
  rw [if_neg (by omega), Int.toNat_natCast]
  have e := getF_run a (400 - a.length) x [192, 1] 0 0 1 [] h1 h2
  rw [show 400 - a.length + a.length = 400 by omega, ← hy] at e
  have hyl : y.length = (x ++ encL a).length + 2 := by rw [hy]; simp; omega
  have hc : y[(x ++ encL a).length]? = some 192 := by rw [hy, ← List.append_assoc, List.getElem?_append_right (Nat.le_refl _)]; simp
  have hd : y[(x ++ encL a).length + 1]? = some 1 := by rw [hy, ← List.append_assoc, List.getElem?_append_right (by omega)]; simp
  have ht : leadTo 192 1 = 1 := by decide
  have hl : (x ++ encL a).length = sizeN b + 2 + sizeN a := by rw [List.length_append, enc_len, hxl]
  rw [e, show 400 - a.length = (399 - a.length) + 1 by omega, getF_lead hc (by decide) hd (by rw [ht]; omega), ht]
  have ey : y = [7] ++ (encL b ++ ([0] ++ (encL a ++ [192, 1]))) := by rw [hy, hx, putN]; simp
  have e2 := getF_run b (399 - a.length - b.length) [7] ([0] ++ (encL a ++ [192, 1])) (if 0 = 0 then (x ++ encL a).length + 2 else 0) (0 + 1) (1 + sizeN a) ([] ++ a) (good_all hb) (by omega)
  rw [← ey, show 399 - a.length - b.length + b.length = 399 - a.length by omega] at e2
  rw [show ([7] : List UInt8).length = 1 from rfl] at e2
  rw [e2, show 399 - a.length - b.length = (398 - a.length - b.length) + 1 by omega, getF_end (c := 0) (by rw [ey, ← List.append_assoc, List.getElem?_append_right (Nat.le_refl _)]; simp) rfl]
  simp [hyl]

/-- Letters made small. -/
def lowB (c : UInt8) : UInt8 := if 65 ≤ c.toNat ∧ c.toNat ≤ 90 then byteOf ((c.toNat : Int) + 32) else c
def sameL (x y : List UInt8) : Bool := decide (x.map lowB = y.map lowB)
def lowN (l : List (List UInt8)) : List (List UInt8) := l.map (·.map lowB)
def sameN (a b : List (List UInt8)) : Bool := decide (lowN a = lowN b)
theorem same_self (l : List (List UInt8)) : sameN l l = true := decide_eq_true rfl
theorem map_at {α β : Type} {f : α → β} {l : List α} {i : Nat} {x : α} (h : l[i]? = some x) : (l.map f)[i]? = some (f x) := by rw [List.getElem?_map, h]; rfl
theorem eq_next {β : Type} {a b : List β} {i : Nat} (h : a.take i = b.take i) (hi : a[i]? = b[i]?) : a.take (i + 1) = b.take (i + 1) := by rw [List.take_add_one, List.take_add_one, h, hi]
theorem eq_end {β : Type} {a b : List β} {i : Nat} (h : a.take i = b.take i) (ha : a.length ≤ i) (hb : b.length ≤ i) : a = b := by rwa [List.take_of_length_le ha, List.take_of_length_le hb] at h
theorem ne_at {β : Type} {a b : List β} {i : Nat} (h : a[i]? ≠ b[i]?) : a ≠ b := fun e => h (by rw [e])
theorem ne_len {β : Type} {a b : List β} (h : a.length ≠ b.length) : a ≠ b := fun e => h (by rw [e])

/-- How a byte of a label is written. -/
def plainB (c : UInt8) : Bool := decide (33 ≤ c.toNat ∧ c.toNat ≤ 126 ∧ c.toNat ≠ 46 ∧ c.toNat ≠ 92)
def dg1 (c : UInt8) : UInt8 := byteOf (48 + (c.toNat : Int) / 100)
def dg2 (c : UInt8) : UInt8 := byteOf (48 + (c.toNat : Int) / 10 % 10)
def dg3 (c : UInt8) : UInt8 := byteOf (48 + (c.toNat : Int) % 10)
def escB (c : UInt8) : List UInt8 := if plainB c = true then [c] else [92, dg1 c, dg2 c, dg3 c]
def textL (x : List UInt8) : List UInt8 := x.flatMap escB
def textG : List (List UInt8) → List UInt8
  | [] => []
  | x :: l => textL x ++ l.flatMap fun y => 46 :: textL y
def textN (l : List (List UInt8)) : List UInt8 := if l = [] then [46] else textG l
theorem dg_val (c : UInt8) : (dg1 c).toNat = 48 + c.toNat / 100 ∧ (dg2 c).toNat = 48 + c.toNat / 10 % 10 ∧ (dg3 c).toNat = 48 + c.toNat % 10 := by
  have hc := c.toNat_lt
  have h1 := byteOf_val (48 + (c.toNat : Int) / 100)
  have h2 := byteOf_val (48 + (c.toNat : Int) / 10 % 10)
  have h3 := byteOf_val (48 + (c.toNat : Int) % 10)
  unfold dg1 dg2 dg3
  refine ⟨?_, ?_, ?_⟩ <;> omega
theorem esc_len (c : UInt8) : (escB c).length ≤ 4 := by unfold escB; split <;> simp
theorem esc_free (c : UInt8) : ∀ d ∈ escB c, d ≠ 46 := by
  intro d hd e
  subst e
  unfold escB at hd
  obtain ⟨h1, h2, h3⟩ := dg_val c
  have hc := c.toNat_lt
  split at hd
  · rename_i hp
    obtain rfl := (List.mem_singleton.1 hd)
    revert hp; decide
  · rcases List.mem_cons.1 hd with e | hd
    · revert e; decide
    · rcases List.mem_cons.1 hd with e | hd
      · rw [← e] at h1; revert h1; simp; omega
      · rcases List.mem_cons.1 hd with e | hd
        · rw [← e] at h2; revert h2; simp; omega
        · obtain e := List.mem_singleton.1 hd
          rw [← e] at h3; revert h3; simp; omega
theorem text_snoc (x : List UInt8) (c : UInt8) : textL (x ++ [c]) = textL x ++ escB c := by simp [textL]
theorem textL_len (x : List UInt8) : (textL x).length ≤ 4 * x.length := by
  induction x with
  | nil => simp [textL]
  | cons c x ih =>
    have := esc_len c
    rw [show textL (c :: x) = escB c ++ textL x from rfl, List.length_append, List.length_cons]
    omega
theorem textL_free (x : List UInt8) : ∀ d ∈ textL x, d ≠ 46 := fun d hd => by
  obtain ⟨c, _, hc⟩ := List.mem_flatMap.1 hd
  exact esc_free c d hc
theorem textL_next {l : List UInt8} {i : Nat} {c : UInt8} (h : l[i]? = some c) : textL (l.take (i + 1)) = textL (l.take i) ++ escB c := by rw [take_next h, text_snoc]
theorem textG_snoc {l : List (List UInt8)} (h : l ≠ []) (x : List UInt8) : textG (l ++ [x]) = textG l ++ 46 :: textL x := by
  cases l with
  | nil => exact absurd rfl h
  | cons y l => simp [textG]
theorem textG_next {l : List (List UInt8)} {i : Nat} {x : List UInt8} (h : l[i]? = some x) (hi : 0 < i) : textG (l.take (i + 1)) = textG (l.take i) ++ 46 :: textL x := by
  rw [take_next h]
  refine textG_snoc (fun e => ?_) x
  have := congrArg List.length e
  have hl := (List.getElem?_eq_some_iff.1 h).1
  rw [List.length_take, List.length_nil] at this
  omega
theorem textG_first {l : List (List UInt8)} {x : List UInt8} (h : l[0]? = some x) : textG (l.take 1) = textL x := by rw [take_next h]; simp [textG]
theorem textG_len (l : List (List UInt8)) : (textG l).length ≤ 4 * sizeN l := by
  have aux : ∀ l : List (List UInt8), (l.flatMap fun y => 46 :: textL y).length ≤ 4 * sizeN l := by
    intro l
    induction l with
    | nil => simp [sizeN]
    | cons x l ih =>
      have := textL_len x
      rw [List.flatMap_cons, List.length_append, List.length_cons, sizeN]
      omega
  cases l with
  | nil => simp [textG]
  | cons x l =>
    have h1 := textL_len x
    have h2 := aux l
    rw [textG, List.length_append, sizeN]
    omega

/-- A text at each such byte. -/
def splitB (b : UInt8) : List UInt8 → List (List UInt8)
  | [] => [[]]
  | c :: r => if c = b then [] :: splitB b r else match splitB b r with
    | [] => [[c]]
    | x :: xs => (c :: x) :: xs
theorem split_ne (b : UInt8) (l : List UInt8) : splitB b l ≠ [] := by
  cases l with
  | nil => simp [splitB]
  | cons c r =>
    rw [splitB]
    split
    · simp
    · split <;> simp
theorem split_free {b : UInt8} : ∀ {l : List UInt8}, (∀ c ∈ l, c ≠ b) → splitB b l = [l]
  | [], _ => rfl
  | c :: r, h => by rw [splitB, if_neg (h c (by simp)), split_free (fun d hd => h d (by simp [hd]))]
theorem split_at {b : UInt8} : ∀ {x : List UInt8} {r : List UInt8}, (∀ c ∈ x, c ≠ b) → splitB b (x ++ b :: r) = x :: splitB b r
  | [], r, _ => by rw [List.nil_append, splitB, if_pos rfl]
  | c :: x, r, h => by rw [List.cons_append, splitB, if_neg (h c (by simp)), split_at (fun d hd => h d (by simp [hd]))]
theorem split_len (b : UInt8) (l : List UInt8) : (splitB b l).length = l.count b + 1 := by
  induction l with
  | nil => rfl
  | cons c r ih =>
    rw [splitB]
    split
    · rename_i h; subst h; rw [List.length_cons, ih, List.count_cons_self]
    · rename_i h
      rw [List.count_cons_of_ne h]
      revert ih
      rcases hs : splitB b r with _ | ⟨x, xs⟩
      · exact absurd hs (split_ne b r)
      · intro ih; simpa using ih
theorem split_sum (b : UInt8) (l : List UInt8) : ∀ x ∈ splitB b l, x.length ≤ l.length := by
  induction l with
  | nil => simp [splitB]
  | cons c r ih =>
    rw [splitB]
    split
    · intro x hx
      rcases List.mem_cons.1 hx with rfl | hx
      · simp
      · have := ih x hx; rw [List.length_cons]; omega
    · revert ih
      rcases splitB b r with _ | ⟨y, ys⟩
      · intro _ x hx; rw [List.mem_singleton.1 hx]; simp
      · intro ih x hx
        rcases List.mem_cons.1 hx with rfl | hx
        · have := ih y (by simp); simpa using this
        · have := ih x (by simp [hx]); rw [List.length_cons]; omega
theorem split_text : ∀ (x : List UInt8) (l : List (List UInt8)), splitB 46 (textG (x :: l)) = (x :: l).map textL
  | x, [] => by rw [textG, List.flatMap_nil, List.append_nil, split_free (textL_free x)]; rfl
  | x, y :: l => by
    have e : textG (x :: y :: l) = textL x ++ 46 :: textG (y :: l) := by simp [textG]
    rw [e, split_at (textL_free x), split_text y l]
    rfl

/-- What a label's text reads as; faults read as anything. -/
def unesc (a b d : UInt8) : UInt8 := byteOf (100 * ((a.toNat : Int) - 48) + 10 * ((b.toNat : Int) - 48) + (d.toNat : Int) - 48)
def parseB : List UInt8 → List UInt8
  | c :: a :: b :: d :: r => if c = 92 then unesc a b d :: parseB r else c :: parseB (a :: b :: d :: r)
  | [c, a, b] => [c, a, b]
  | [c, a] => [c, a]
  | [c] => [c]
  | [] => []
theorem parse_esc (a b d : UInt8) (r : List UInt8) : parseB (92 :: a :: b :: d :: r) = unesc a b d :: parseB r := by rw [parseB, if_pos rfl]
theorem parse_one {c : UInt8} {r : List UInt8} (h : c ≠ 92 ∨ r.length < 3) : parseB (c :: r) = c :: parseB r := by
  rcases r with _ | ⟨a, _ | ⟨b, _ | ⟨d, r⟩⟩⟩
  · rfl
  · rfl
  · rfl
  · rcases h with h | h
    · rw [parseB, if_neg h]
    · simp at h; omega
theorem parse_len : ∀ (n : Nat) (l : List UInt8), l.length ≤ n → (parseB l).length ≤ l.length
  | 0, l, h => by obtain rfl := List.eq_nil_of_length_eq_zero (Nat.le_zero.1 h); simp [parseB]
  | n + 1, l, h => by
    rcases l with _ | ⟨c, r⟩
    · simp [parseB]
    · by_cases hc : c = 92 ∧ 3 ≤ r.length
      · obtain ⟨rfl, h3⟩ := hc
        rcases r with _ | ⟨a, _ | ⟨b, _ | ⟨d, r⟩⟩⟩
        · simp at h3
        · simp at h3
        · simp at h3
        · simp only [List.length_cons] at h ⊢
          have := parse_len n r (by omega)
          rw [parse_esc, List.length_cons]
          omega
      · have := parse_len n r (by simp only [List.length_cons] at h; omega)
        rw [parse_one (by
          rcases Classical.em (c = 92) with h1 | h1
          · exact .inr (by have : ¬ 3 ≤ r.length := fun h => hc ⟨h1, h⟩
                           omega)
          · exact .inl h1)]
        simpa using this
theorem unesc_dg (c : UInt8) : unesc (dg1 c) (dg2 c) (dg3 c) = c := by
  obtain ⟨h1, h2, h3⟩ := dg_val c
  have hc := c.toNat_lt
  unfold unesc
  rw [h1, h2, h3]
  apply UInt8.toNat_inj.1
  have h4 : (100 * (((48 + c.toNat / 100 : Nat) : Int) - 48) + 10 * (((48 + c.toNat / 10 % 10 : Nat) : Int) - 48) + ((48 + c.toNat % 10 : Nat) : Int) - 48) = (c.toNat : Int) := by omega
  rw [h4, byteOf_nat hc]
theorem parse_text (x r : List UInt8) : parseB (textL x ++ r) = x ++ parseB r := by
  induction x with
  | nil => rfl
  | cons c x ih =>
    rw [show textL (c :: x) = escB c ++ textL x from rfl, List.append_assoc]
    unfold escB
    split
    · rename_i hp
      rw [List.cons_append, List.nil_append, parse_one (.inl (fun e => by subst e; revert hp; decide)), ih]; rfl
    · rw [show [92, dg1 c, dg2 c, dg3 c] ++ (textL x ++ r) = 92 :: dg1 c :: dg2 c :: dg3 c :: (textL x ++ r) from rfl, parse_esc, unesc_dg, ih]; rfl
/-- The name that a text denotes. -/
def parseS (s : List UInt8) : Option (List (List UInt8)) :=
  if s = [46] then some []
  else if 1020 < s.length then none
  else if goodN ((splitB 46 s).map parseB) = true ∧ textN ((splitB 46 s).map parseB) = s then some ((splitB 46 s).map parseB) else none
theorem parseS_sound {s : List UInt8} {l : List (List UInt8)} (h : parseS s = some l) : goodN l = true ∧ textN l = s := by
  unfold parseS at h
  split at h
  · rename_i e; obtain rfl := Option.some.inj h; subst e; exact ⟨by decide, rfl⟩
  · split at h
    · cases h
    · split at h
      · rename_i h2; obtain rfl := Option.some.inj h; exact h2
      · cases h
theorem map_parse (l : List (List UInt8)) : (l.map textL).map parseB = l := by
  rw [List.map_map]
  have : (parseB ∘ textL) = id := by funext x; have := parse_text x []; simpa [parseB] using this
  rw [this, List.map_id]
theorem good_text_len {l : List (List UInt8)} (h : goodN l = true) : (textN l).length ≤ 1020 := by
  unfold textN
  split
  · simp
  · have h1 := textG_len l
    have h2 := good_size h
    omega
theorem esc_pos (c : UInt8) : escB c ≠ [] := by unfold escB; split <;> simp
theorem textL_ne {x : List UInt8} (h : 1 ≤ x.length) : textL x ≠ [] := by
  rcases x with _ | ⟨c, x⟩
  · simp at h
  · intro e
    rw [show textL (c :: x) = escB c ++ textL x from rfl] at e
    exact esc_pos c (List.append_eq_nil_iff.1 e).1
theorem textG_root {l : List (List UInt8)} (h : ∀ x ∈ l, 1 ≤ x.length) : textG l ≠ [46] := by
  intro e
  rcases l with _ | ⟨x, l⟩
  · simp [textG] at e
  · have h1 := textL_ne (h x (by simp))
    have h2 := split_text x l
    rw [e, show splitB 46 [46] = [[], []] by decide] at h2
    rw [List.map_cons] at h2
    exact h1 (List.cons.inj h2).1.symm
theorem parseS_text {l : List (List UInt8)} (h : goodN l = true) : parseS (textN l) = some l := by
  rcases l with _ | ⟨x, l⟩
  · rfl
  · have h1 := good_text_len h
    have h2 : textN (x :: l) = textG (x :: l) := if_neg (by simp)
    have h3 := textG_root (l := x :: l) fun y hy => (good_all h y hy).1
    unfold parseS
    rw [h2] at h1 ⊢
    have h4 : (splitB 46 (textG (x :: l))).map parseB = x :: l := by rw [split_text, map_parse]
    rw [if_neg h3, if_neg (by omega), h4, if_pos ⟨h, h2⟩]
end Go.Proofs.YtholgadifhjmgaaDoor
