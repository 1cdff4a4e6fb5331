/- Facts on pools of consecutive addresses. No walk. -/
import Derived.Test.YthcjepafcemmnaaLaw14
namespace Go.Proofs.Ythcjepafcemmnaa
open Go.RowKit

theorem byteOf_small {k : Nat} (h : k < 256) : (byteOf (k : Int)).toNat = k := by
  have := byteOf_val (k : Int)
  omega
theorem atA_num {k : Nat} (h : k < 256) : (atA (k : Int)).num = 167772160 + k := by
  have h2 : ∀ b : UInt8, be [10, 0, 0, b] = 167772160 + b.toNat := by
    intro b
    simp [be]
  show be [10, 0, 0, byteOf (k : Int)] = _
  rw [h2, byteOf_small h]
theorem atA_inj {i j : Nat} (hi : i < 256) (hj : j < 256) (h : atA (i : Int) = atA (j : Int)) : i = j := by
  have := congrArg Ad4.num h
  rw [atA_num hi, atA_num hj] at this
  omega
theorem macM_ne {i j : Nat} (hi : i < 256) (hj : j < 256) (h : i ≠ j) : (macM (i : Int)).eqB (macM (j : Int)) = false := Mc6.eqB_no fun e => by
  have h1 : byteOf (i : Int) = byteOf (j : Int) := congrArg Mc6.f e
  have h2 := congrArg UInt8.toNat h1
  rw [byteOf_small hi, byteOf_small hj] at h2
  exact h h2
/-- The address of slot j. -/
def nA (j : Nat) : Ad4 := atA ((100 + j : Nat) : Int)
theorem nA_num {j : Nat} (h : j < 156) : (nA j).num = 167772160 + (100 + j) := atA_num (by omega)
/-- The n slots that F tells. -/
def Rg (n : Nat) (F : Nat → Sd) : List Sd := (List.range n).map F
theorem Rg.len (n : Nat) (F : Nat → Sd) : (Rg n F).length = n := by unfold Rg; simp
theorem Rg.get {n i : Nat} {F : Nat → Sd} (h : i < n) : (Rg n F)[i]? = some (F i) := by
  unfold Rg
  rw [List.getElem?_map, List.getElem?_range h]; rfl
theorem Rg.of {n i : Nat} {F : Nat → Sd} {x : Sd} (h : (Rg n F)[i]? = some x) : i < n ∧ x = F i := by
  have hi := (List.getElem?_eq_some_iff.1 h).1
  rw [Rg.len] at hi
  rw [Rg.get hi] at h
  cases h
  exact ⟨hi, rfl⟩
theorem Rg.mod {n i : Nat} {F : Nat → Sd} {f : Sd → Sd} : (Rg n F).modify i f = Rg n (fun j => if j = i then f (F j) else F j) := by
  apply List.ext_getElem?
  intro j
  rw [List.getElem?_modify]
  unfold Rg
  rw [List.getElem?_map, List.getElem?_map]
  cases hj : (List.range n)[j]? with
  | none => simp
  | some q =>
    have : q = j := by
      obtain ⟨h1, h2⟩ := List.getElem?_eq_some_iff.1 hj
      simp at h2; exact h2.symm
    subst this
    by_cases e : i = q
    · subst e; simp
    · have e' : ¬ q = i := fun h => e h.symm
      simp [e, e']
theorem Rg.congr {n : Nat} {F G : Nat → Sd} (h : ∀ j, j < n → F j = G j) : Rg n F = Rg n G := by
  unfold Rg
  exact List.map_congr_left fun j hj => h j (List.mem_range.1 hj)
/-- The slots' addresses are 100 and on. -/
def AdF (F : Nat → Sd) : Prop := ∀ j, (F j).ad = nA j
theorem Rg.num {F : Nat → Sd} (h : AdF F) {j : Nat} (hj : j < 100) : (F j).num = 167772160 + (100 + j) := by
  unfold Sd.num
  rw [h j, nA_num (by omega)]
theorem Rg.srt {n : Nat} {F : Nat → Sd} (h : AdF F) (hn : n ≤ 100) : SSrt (Rg n F) := by
  unfold SSrt
  rw [List.pairwise_iff_getElem]
  intro i j hi hj hij
  rw [Rg.len] at hi hj
  have e : ∀ q (hq : q < n), (Rg n F)[q]'(by rw [Rg.len]; exact hq) = F q := fun q hq => by
    have := Rg.get (F := F) hq
    rw [List.getElem?_eq_getElem (by rw [Rg.len]; exact hq)] at this
    exact Option.some.inj this
  rw [e i hi, e j hj, Rg.num h (by omega), Rg.num h (by omega)]
  omega
theorem Rg.pos {n i : Nat} {F : Nat → Sd} (h : AdF F) (hn : n ≤ 100) (hi : i < n) : sfpos (Rg n F) (nA i).num = i ∧ sfhas (Rg n F) (nA i).num = true :=
  (Rg.srt h hn).found (Rg.get hi) (by unfold Sd.num; rw [h i])
theorem Rg.out {n x : Nat} {F : Nat → Sd} (h : AdF F) (hn : n ≤ 100) (hx : ∀ j, j < n → x ≠ 167772160 + (100 + j)) : sfhas (Rg n F) x = false := SSrt.none fun e he hne => by
  obtain ⟨j, hj⟩ := List.getElem?_of_mem he
  obtain ⟨h1, rfl⟩ := Rg.of hj
  rw [Rg.num h (by omega)] at hne
  exact hx j h1 hne.symm
theorem Rg.held_none {n : Nat} {F : Nat → Sd} {m : Mc6} {now : Int} (h : ∀ j, j < n → (F j).heldB m now = false) : hldF m now (Rg n F) = none := hldF_none fun q e he => by
  obtain ⟨h1, rfl⟩ := Rg.of he
  exact h q h1
theorem Rg.held {n i : Nat} {F : Nat → Sd} {m : Mc6} {now : Int} (hi : i < n) (h1 : (F i).heldB m now = true) (h : ∀ j, j < i → (F j).heldB m now = false) : hldF m now (Rg n F) = some i := hldF_some (Rg.get hi) h1 fun q e hq he => by
  obtain ⟨_, rfl⟩ := Rg.of he
  exact h q hq
theorem best_none {m : Mc6} {now : Int} {l : List Sd} (h : ∀ (j : Nat) (e : Sd), l[j]? = some e → e.freeB now = false) : ∀ k, bestF m now l k = none := by
  intro k
  induction k with
  | zero => rfl
  | succ k ih =>
    unfold bestF
    cases he : l[k]? with
    | none => exact ih
    | some e =>
      simp only
      rw [ih]
      simp [betB, h k e he]
theorem best_is {m : Mc6} {now : Int} {l : List Sd} {i : Nat} {x : Sd} (hx : l[i]? = some x) (hf : x.freeB now = true) (h : ∀ (j : Nat) (e : Sd), l[j]? = some e → e.freeB now = true → (j < i → x.rank m < e.rank m) ∧ (i < j → x.rank m ≤ e.rank m)) : bestF m now l l.length = some i := by
  have hi := (List.getElem?_eq_some_iff.1 hx).1
  have lo : ∀ k, k ≤ i → bestF m now l k = none ∨ ∃ (j : Nat) (e : Sd), bestF m now l k = some j ∧ l[j]? = some e ∧ x.rank m < e.rank m := by
    intro k
    induction k with
    | zero => intro _; exact .inl rfl
    | succ k ih =>
      intro hk
      obtain ⟨e, he⟩ : ∃ e, l[k]? = some e := ⟨_, List.getElem?_eq_getElem (by omega)⟩
      unfold bestF
      rw [he]
      simp only
      by_cases hb : betB m now l (bestF m now l k) e = true
      · rw [if_pos hb]
        have hfe : e.freeB now = true := by unfold betB at hb; simp only [Bool.and_eq_true] at hb; exact hb.1
        exact .inr ⟨k, e, rfl, he, (h k e he hfe).1 (by omega)⟩
      · rw [if_neg hb]
        exact ih (by omega)
  have hi : ∀ k, i < k → k ≤ l.length → bestF m now l k = some i := by
    intro k
    induction k with
    | zero => intro h0; omega
    | succ k ih =>
      intro hk hkl
      obtain ⟨e, he⟩ : ∃ e, l[k]? = some e := ⟨_, List.getElem?_eq_getElem (by omega)⟩
      unfold bestF
      rw [he]
      simp only
      rcases Nat.lt_or_ge i k with h1 | h1
      · rw [ih h1 (by omega)]
        have : betB m now l (some i) e = false := by
          unfold betB
          cases hfe : e.freeB now with
          | false => rfl
          | true =>
            have := (h k e he hfe).2 h1
            simp [hx]; omega
        rw [if_neg (by rw [this]; decide)]
      · obtain rfl : k = i := by omega
        rw [hx] at he
        cases he
        rcases lo k (Nat.le_refl _) with h2 | ⟨j, y, h2, h3, h4⟩
        · rw [if_pos (by rw [h2]; unfold betB; rw [hf]; rfl)]
        · rw [if_pos (by rw [h2]; unfold betB; rw [hf]; simp [h3, h4])]
  exact hi l.length ‹_› (Nat.le_refl _)
theorem Rg.best {n i : Nat} {F : Nat → Sd} {m : Mc6} {now : Int} (hi : i < n) (hf : (F i).freeB now = true) (h : ∀ j, j < n → (F j).freeB now = true → (j < i → (F i).rank m < (F j).rank m) ∧ (i < j → (F i).rank m ≤ (F j).rank m)) : bestF m now (Rg n F) (Rg n F).length = some i := best_is (Rg.get hi) hf fun j e he hfe => by
  obtain ⟨h1, rfl⟩ := Rg.of he
  exact h j h1 hfe
theorem Rg.full {n : Nat} {F : Nat → Sd} {m : Mc6} {now : Int} (h : ∀ j, j < n → (F j).freeB now = false) (k : Nat) : bestF m now (Rg n F) k = none := best_none (fun j e he => by
  obtain ⟨h1, rfl⟩ := Rg.of he
  exact h j h1) k
/-- A pool of n addresses from 100 on. -/
def nilF (j : Nat) : Sd := slot0 (nA j)
theorem nilF_ad : AdF nilF := fun _ => rfl
theorem pool_n (n : Nat) (hn : n ≤ 100) : newL [] (nA 0).num n = Rg n nilF := by
  have h100 : (nA 0).num = 167772260 := nA_num (by omega)
  rw [h100]
  induction n with
  | zero => rfl
  | succ n ih =>
    have ih := ih (by omega)
    show addL (newL [] 167772260 n) (adOf (167772260 + n)) = _
    rw [ih]
    have e : adOf (167772260 + n) = nA n := Ad4.num_inj (by rw [adOf_num (by omega), nA_num (by omega)]; omega)
    rw [e]
    unfold addL
    have hno : sfhas (Rg n nilF) (nA n).num = false := by
      rw [nA_num (by omega)]
      exact Rg.out nilF_ad (by omega) (fun j hj => by omega)
    rw [hno, if_neg (by decide)]
    have hp : sfpos (Rg n nilF) (slot0 (nA n)).num = n := by
      show sfpos (Rg n nilF) (nA n).num = n
      rw [nA_num (by omega)]
      refine sfpos_of (by rw [Rg.len]; exact Nat.le_refl _) (fun j e hj he => ?_) (fun j e hj he => ?_)
      · obtain ⟨h1, rfl⟩ := Rg.of he
        rw [Rg.num nilF_ad (by omega)]; omega
      · obtain ⟨h1, rfl⟩ := Rg.of he
        omega
    unfold sins
    rw [hp, List.take_of_length_le (Nat.le_of_eq (Rg.len n nilF)), List.drop_eq_nil_of_le (Nat.le_of_eq (Rg.len n nilF))]
    unfold Rg
    rw [List.range_succ, List.map_append]
    rfl
theorem pool_new {q : Nat} (hq : q < 64) : newL [] (nA 0).num ((nA q).num - (nA 0).num + 1) = Rg (q + 1) nilF := by
  rw [show (nA q).num - (nA 0).num + 1 = q + 1 by rw [nA_num (by omega), nA_num (by omega)]; omega]
  exact pool_n (q + 1) (by omega)
theorem new_ok {q : Nat} (hq : q < 64) : (nA 0).num ≤ (nA q).num ∧ (nA q).num - (nA 0).num < 64 := by
  rw [nA_num (by omega), nA_num (by omega)]; omega
theorem padv_0 {t : Int} (h0 : 0 ≤ t) (h1 : t ≤ 1099511627776) : padv 0 t = t := by
  unfold padv
  split <;> omega
theorem padv_self (t : Int) : padv t t = t := by
  unfold padv
  split <;> omega
theorem homeF_nil (m : Mc6) : homeF [] m = none := rfl
end Go.Proofs.Ythcjepafcemmnaa
