/- Texts put together: more. -/
import Derived.Test.YtdfobilagidmfaaDoorQ1
import Derived.Test.YtdfobilagidmfaaDoorQ2
import Derived.Test.YtdfobilagidmfaaDoorQ3
import Derived.Test.YtdfobilagidmfaaDoorQ4
import Derived.Test.YtdfobilagidmfaaDoorQ5
import Derived.Test.YtdfobilagidmfaaDoorQ6
import Derived.Test.YtdfobilagidmfaaDoorQ7
import Derived.Test.YtdfobilagidmfaaDoorQ8
import Derived.Test.YtdfobilagidmfaaDoorQ9
import Derived.Test.YtdfobilagidmfaaDoorQ10
import Derived.Test.YtdfobilagidmfaaDoorQ11
import Derived.Test.YtdfobilagidmfaaDoorQ12
import Derived.Test.YtdfobilagidmfaaDoorQ13
import Derived.Test.YtdfobilagidmfaaDoorQ14
import Derived.Test.YtdfobilagidmfaaDoorQ15
import Derived.Test.YtdfobilagidmfaaDoorQ16
import Derived.Test.YtdfobilagidmfaaDoorQ17
namespace Go.Proofs.YtdfobilagidmfaaDoor
theorem numGo_append : ∀ (l t : List UInt8) (v : Nat), numGo (l ++ t) v = (numGo l v).bind (numGo t)
  | [], t, v => rfl
  | c :: l, t, v => by
    rw [List.cons_append, numGo, numGo]
    split
    · rfl
    · exact numGo_append l t _
theorem numGo_dig (r v : Nat) (h : r < 10) : numGo [digT r] v = some (10 * v + r) := by
  rw [numGo, digT_val h, if_neg (by omega), numGo]; congr 1; omega
theorem numGo_decT : ∀ (k n : Nat), n < 10 ^ (k + 1) → numGo (decT n) 0 = some n := by
  intro k
  induction k with
  | zero => intro n h; rw [decT_small (by omega), numGo_dig _ _ (by omega)]; congr 1; omega
  | succ k ih =>
    intro n h
    by_cases hn : n < 10
    · rw [decT_small hn, numGo_dig _ _ hn]; congr 1; omega
    · rw [decT_more hn, numGo_append, ih (n / 10) (by rw [Nat.pow_succ] at h; omega)]
      show numGo [digT (n % 10)] (n / 10) = _
      rw [numGo_dig _ _ (by omega)]; congr 1; omega
theorem decT_pos (n : Nat) : 1 ≤ (decT n).length := by
  by_cases hn : n < 10
  · rw [decT_small hn]; simp
  · rw [decT_more hn]; simp
theorem decT_head : ∀ (k n : Nat), n < 10 ^ (k + 1) → 1 ≤ n → (decT n)[0]? ≠ some 48 := by
  intro k
  induction k with
  | zero =>
    intro n h h1
    rw [decT_small (by omega)]
    intro he
    have e : digT n = 48 := by simpa using he
    have := digT_val (n := n) (by omega)
    rw [e] at this
    have : (48 : UInt8).toNat = 48 := rfl
    omega
  | succ k ih =>
    intro n h h1
    by_cases hn : n < 10
    · exact ih n (by have : (10 : Nat) ^ 1 ≤ 10 ^ (k + 1) := Nat.pow_le_pow_right (by omega) (by omega); omega) h1
    · rw [decT_more hn, List.getElem?_append_left (decT_pos _)]
      exact ih (n / 10) (by rw [Nat.pow_succ] at h; omega) (by omega)
theorem numI_decT (n : Nat) (most : Int) (h : n < 1000000000) (hm : (n : Int) ≤ most) : numI (decT n) most = n := by
  have hl := decT_len 8 n (by omega)
  have hp := decT_pos n
  rw [numI_some most n ?_ (numGo_decT 8 n (by omega)), if_neg (by omega)]
  rintro (h1 | h1 | ⟨h1, h2⟩)
  · omega
  · omega
  · by_cases h0 : n < 10
    · rw [decT_small h0] at h1; simp at h1
    · exact decT_head 8 n (by omega) (by omega) h2
theorem decT_digits : ∀ (k n : Nat), n < 10 ^ (k + 1) → ∀ c ∈ decT n, 48 ≤ c.toNat ∧ c.toNat ≤ 57 := by
  intro k
  induction k with
  | zero =>
    intro n h c hc
    rw [decT_small (by omega)] at hc
    rw [List.mem_singleton.1 hc, digT_val (by omega)]; omega
  | succ k ih =>
    intro n h c hc
    by_cases hn : n < 10
    · rw [decT_small hn] at hc
      rw [List.mem_singleton.1 hc, digT_val hn]; omega
    · rw [decT_more hn] at hc
      rcases List.mem_append.1 hc with h1 | h1
      · exact ih (n / 10) (by rw [Nat.pow_succ] at h; omega) c h1
      · rw [List.mem_singleton.1 h1, digT_val (by omega)]; omega

theorem dec_free (b : UInt8) (n : Nat) (hn : n < 1000) (hb : b.toNat < 48) : ∀ c ∈ decT n, c ≠ b := by
  intro c hc e
  have := decT_digits 2 n (by omega) c hc
  rw [e] at this; omega
theorem cut_adT (a b c d : UInt8) : cutF 46 (adT a b c d) = [decT a.toNat, decT b.toNat, decT c.toNat, decT d.toNat] := by
  have fa := dec_free 46 a.toNat (by have := a.toNat_lt; omega) (by decide)
  have fb := dec_free 46 b.toNat (by have := b.toNat_lt; omega) (by decide)
  have fc := dec_free 46 c.toNat (by have := c.toNat_lt; omega) (by decide)
  have fd := dec_free 46 d.toNat (by have := d.toNat_lt; omega) (by decide)
  unfold adT
  rw [cut_at 46 _ _ fd, cut_at 46 _ _ fc, cut_at 46 _ _ fb, cut_none 46 _ fa]
  rfl
theorem byteOf_nat (a : UInt8) : byteOf (a.toNat : Int) = a := by
  apply UInt8.toNat_inj.1
  have := byteOf_val (a.toNat : Int)
  have := a.toNat_lt
  omega
theorem adT_len (a b c d : UInt8) : (adT a b c d).length ≤ 15 := by
  have := byte_len a; have := byte_len b; have := byte_len c; have := byte_len d
  unfold adT
  simp only [List.length_append, List.length_singleton]
  omega
/-- An address's text is read as the address. -/
theorem parse_adT (a b c d : UInt8) : parse4 (adT a b c d) = some (a, b, c, d) := by
  have hl := adT_len a b c d
  have na := numI_decT a.toNat 255 (by have := a.toNat_lt; omega) (by have := a.toNat_lt; omega)
  have nb := numI_decT b.toNat 255 (by have := b.toNat_lt; omega) (by have := b.toNat_lt; omega)
  have nc := numI_decT c.toNat 255 (by have := c.toNat_lt; omega) (by have := c.toNat_lt; omega)
  have nd := numI_decT d.toNat 255 (by have := d.toNat_lt; omega) (by have := d.toNat_lt; omega)
  unfold parse4
  rw [if_neg (by omega), cut_adT]
  simp only [na, nb, nc, nd]
  rw [if_pos (by omega), byteOf_nat, byteOf_nat, byteOf_nat, byteOf_nat]
theorem adT_free (a b c d : UInt8) : ∀ x ∈ adT a b c d, x ≠ 47 := by
  intro x hx
  unfold adT at hx
  simp only [List.mem_append, List.mem_singleton] at hx
  have f := fun (u : UInt8) => dec_free 47 u.toNat (by have := u.toNat_lt; omega) (by decide)
  rcases hx with (((((h | h) | h) | h) | h) | h) | h
  · exact f a x h
  · rw [h]; decide
  · exact f b x h
  · rw [h]; decide
  · exact f c x h
  · rw [h]; decide
  · exact f d x h
open Go.RowKit

theorem macBs_len (l : List UInt8) (k : Nat) : (macBs l k).length = 6 := by simp [macBs]
open Go.RowKit

theorem cutStep_pre (b : UInt8) (ls m : List (List UInt8)) (c : UInt8) (hm : m ≠ []) : cutStep b (ls ++ m) c = ls ++ cutStep b m c := by
  obtain ⟨q, x, rfl⟩ : ∃ q x, m = q ++ [x] := by
    rcases List.eq_nil_or_concat m with h | ⟨q, x, h⟩
    · exact absurd h hm
    · exact ⟨q, x, by rw [h, List.concat_eq_append]⟩
  unfold cutStep
  split
  · simp
  · rw [← List.append_assoc, List.dropLast_concat, List.dropLast_concat]
    simp
theorem fold_pre (b : UInt8) : ∀ (r : List UInt8) (ls m : List (List UInt8)), m ≠ [] → r.foldl (cutStep b) (ls ++ m) = ls ++ r.foldl (cutStep b) m
  | [], _, _, _ => rfl
  | c :: r, ls, m, hm => by
    rw [List.foldl_cons, cutStep_pre b ls m c hm, List.foldl_cons]
    exact fold_pre b r ls _ (cutStep_ne b m c)
theorem cutF_cons (b : UInt8) (l r : List UInt8) (h : ∀ c ∈ l, c ≠ b) : cutF b (l ++ b :: r) = l :: cutF b r := by
  have h1 : cutF b l = [l] := cut_none b l h
  unfold cutF at h1 ⊢
  rw [List.foldl_append, h1, List.foldl_cons]
  have h2 : cutStep b [l] b = [l] ++ [[]] := by unfold cutStep; rw [if_pos rfl]
  rw [h2, fold_pre b r [l] [[]] (by simp)]
  rfl
theorem lines_cons {l r : List UInt8} (h : ∀ c ∈ l, c ≠ 10) : linesL (l ++ 10 :: r) = l :: linesL r := by
  have hc := cutF_cons 10 l r h
  have hne := cutF_ne 10 r
  unfold linesL
  rw [hc]
  obtain ⟨x, y, e⟩ : ∃ x y, cutF 10 r = x :: y := by
    cases hr : cutF 10 r with
    | nil => exact absurd hr hne
    | cons x y => exact ⟨x, y, rfl⟩
  rw [e, List.getLast?_cons_cons]
  split
  · rw [List.dropLast_cons_cons]
  · rfl
theorem lines_nil : linesL [] = [] := by decide
theorem lines_txt : ∀ {ls : List (List UInt8)}, (∀ l ∈ ls, ∀ c ∈ l, c ≠ 10) → linesL (txt ls) = ls
  | [], _ => lines_nil
  | l :: ls, h => by
    have e : txt (l :: ls) = l ++ 10 :: txt ls := by unfold txt; rw [List.flatMap_cons, List.append_assoc]; rfl
    rw [e, lines_cons (h l (by simp)), lines_txt (fun x hx => h x (by simp [hx]))]
/-- A line NAME=VALUE of digits: which field is set. -/
theorem digits_word {n : Nat} (h : n < 1000000000) : onlyW (decT n) = some (decT n) ∧ okV 0 (decT n) = true ∧ decV (decT n) = n := by
  have hd := decT_digits 8 n (by omega)
  have hp := decT_pos n
  have hnum := numI_decT n 999999999 h (by omega)
  refine ⟨?_, ?_, (dec_yes hnum).1⟩
  · have hb : ∀ c ∈ decT n, isBl c = false := fun c hc => by
      have := hd c hc
      rw [← blN_u8]; unfold blN; simp only [Bool.or_eq_false_iff, beq_eq_false_iff_ne]; omega
    unfold onlyW wordsL
    have e := words_free (decT n) [] [] hb
    rw [List.append_nil, List.nil_append] at e
    rw [e, wordsGo, if_neg (by intro h0; rw [h0] at hp; simp at hp)]
  · exact (dec_yes hnum).2
theorem cut1_name {x v : List UInt8} (h : ∀ c ∈ x, c ≠ 61) : cut1 61 (x ++ 61 :: v) = some (x, v) := by
  rw [cut1_skip x _ h, cut1, if_pos rfl]
  simp
theorem cparse_is {t : List UInt8} {c : Cf} {l e : Int} (h : parseS t = (c, l, e)) (ht : t.length ≤ 1000000) (w : World) : Calls Tryd.prog 8 #[.string ⟨t.toArray⟩] w fun r w' => ∃ Fx nf cf Ox nx cx, r = .returned (.tuple #[.agg (cfl c Fx nf cf Ox nx cx).toArray, .int .i64 l, .int .i64 e]) ∧ Sle fxf 10 w' Fx nf cf c.fixed ∧ Sle opf 7 w' Ox nx cx c.opens ∧ Fr w.heap.size Fx nf ∧ Fr w.heap.size Ox nx ∧ Below w.heap.size w w' := by
  refine (cparse_any t w ht).mono ?_
  rintro r w' ⟨Fx, nf, cf, Ox, nx, cx, rfl, hh⟩
  rw [h] at hh ⊢
  exact ⟨Fx, nf, cf, Ox, nx, cx, rfl, hh⟩
theorem skip_name {c : UInt8} {s r : List UInt8} (h : isBl c = false) (h2 : (c == 35) = false) : skipL (c :: s ++ r) = false := by
  unfold skipL
  rw [List.cons_append, List.dropWhile_cons, if_neg (by rw [h]; decide)]
  exact h2
theorem txt_len {k : Nat} : ∀ {ls : List (List UInt8)}, (∀ l ∈ ls, l.length ≤ k) → (txt ls).length ≤ (k + 1) * ls.length
  | [], _ => by simp [txt]
  | l :: ls, h => by
    have h1 := h l (by simp)
    have h2 := txt_len (ls := ls) (fun x hx => h x (by simp [hx]))
    have e : txt (l :: ls) = l ++ [10] ++ txt ls := by unfold txt; rw [List.flatMap_cons]
    rw [e]
    simp only [List.length_append, List.length_cons, List.length_nil]
    rw [Nat.mul_succ]
    omega
open Go.RowKit

theorem adT_chars (A : Ad4) : ∀ x ∈ adT A.a A.b A.c A.d, x = 46 ∨ (48 ≤ x.toNat ∧ x.toNat ≤ 57) := by
  have h := fun (u : UInt8) (x : UInt8) (hx : x ∈ decT u.toNat) => decT_digits 8 u.toNat (by have := u.toNat_lt; omega) x hx
  intro x hx
  unfold adT at hx
  simp only [List.mem_append, List.mem_cons, List.not_mem_nil, or_false] at hx
  rcases hx with (((((hx | hx) | hx) | hx) | hx) | hx) | hx <;> first | exact .inl hx | exact .inr (h _ _ hx)
def netX (A : Ad4) (n : Nat) : List UInt8 := adT A.a A.b A.c A.d ++ 47 :: decT n
def lanT (A : Ad4) (n : Nat) : List UInt8 := [108, 97, 110, 32, 61, 32] ++ netX A n
theorem net_read (A : Ad4) {n : Nat} (hn : n ≤ 99) : nwO (netX A n) = A ∧ nwB (netX A n) = n ∧ nwK (netX A n) = true := by
  have hc : cut1 47 (netX A n) = some (adT A.a A.b A.c A.d, decT n) := by
    unfold netX
    rw [cut1_skip _ _ (adT_free A.a A.b A.c A.d), cut1, if_pos rfl]
    simp
  have hp := parse_adT A.a A.b A.c A.d
  have hok : p4ok (adT A.a A.b A.c A.d) = true := by unfold p4ok; rw [hp]; rfl
  obtain ⟨_, h2, h3⟩ := digits_word (n := n) (by omega)
  refine ⟨?_, ?_, ?_⟩
  · unfold nwO; rw [hc]; show p4 _ = A; unfold p4; rw [hp]
  · unfold nwB; rw [hc]; simp only [hok]; exact h3
  · unfold nwK; rw [hc]; simp only [hok]; exact h2
/-- The configuration of a line lan alone. -/
def netC (A : Ad4) (n : Nat) : Cf := { usualC with own := A, lan := Ad4.ofN (fN A n), bits := n, first := poolA (Ad4.ofN (fN A n)) n, last := poolZ (Ad4.ofN (fN A n)) n }
/-! ### The pool's place in the net -/
def loN (A : Ad4) (n : Nat) : Nat := fN A n + (if n ≤ 24 then 100 else 2)
def hiN (A : Ad4) (n : Nat) : Nat := fN A n + (if n ≤ 24 then 131 else min 33 (lN A n - fN A n - 1))
theorem hexI_dig : ∀ n : Fin 16, hexI (hexDig n.val) = n.val := by decide +kernel
theorem hexI_at (n : Nat) (h : n < 16) : hexI (hexDig n) = n := hexI_dig ⟨n, h⟩
theorem macT_six (b0 b1 b2 b3 b4 b5 : UInt8) : macT [b0, b1, b2, b3, b4, b5] 6 =
    [hexDig (b0.toNat / 16), hexDig (b0.toNat % 16), 58, hexDig (b1.toNat / 16), hexDig (b1.toNat % 16), 58, hexDig (b2.toNat / 16), hexDig (b2.toNat % 16), 58,
     hexDig (b3.toNat / 16), hexDig (b3.toNat % 16), 58, hexDig (b4.toNat / 16), hexDig (b4.toNat % 16), 58, hexDig (b5.toNat / 16), hexDig (b5.toNat % 16)] := by
  simp [macT]
theorem mac_byte (x : UInt8) : (16 : Int) * hexI (hexDig (x.toNat / 16)) + hexI (hexDig (x.toNat % 16)) = x.toNat := by
  have := x.toNat_lt
  rw [hexI_at _ (by omega), hexI_at _ (by omega)]; omega
theorem hexI_nn (x : UInt8) : ¬ hexI (hexDig (x.toNat / 16)) < 0 ∧ ¬ hexI (hexDig (x.toNat % 16)) < 0 := by
  have := x.toNat_lt
  rw [hexI_at _ (by omega), hexI_at _ (by omega)]; omega
/-- A Mac's text is read as the Mac. -/
theorem mac_back (b0 b1 b2 b3 b4 b5 : UInt8) : macOk (macT [b0, b1, b2, b3, b4, b5] 6) ∧ macBs (macT [b0, b1, b2, b3, b4, b5] 6) 6 = [b0, b1, b2, b3, b4, b5] := by
  rw [macT_six]
  have key : ∀ i, i < 6 → macB [hexDig (b0.toNat / 16), hexDig (b0.toNat % 16), 58, hexDig (b1.toNat / 16), hexDig (b1.toNat % 16), 58, hexDig (b2.toNat / 16), hexDig (b2.toNat % 16), 58,
     hexDig (b3.toNat / 16), hexDig (b3.toNat % 16), 58, hexDig (b4.toNat / 16), hexDig (b4.toNat % 16), 58, hexDig (b5.toNat / 16), hexDig (b5.toNat % 16)] i = (([b0, b1, b2, b3, b4, b5].getD i 0).toNat : Int) := by
    intro i hi
    match i, hi with
    | 0, _ | 1, _ | 2, _ | 3, _ | 4, _ | 5, _ =>
      unfold macB
      simp only [Nat.mul_zero, Nat.zero_add, Nat.reduceMul, Nat.reduceAdd, List.getD_cons_zero, List.getD_cons_succ]
      rw [if_neg (by simp [hexI_nn])]
      exact mac_byte _
  refine ⟨⟨rfl, fun i hi => by rw [key i hi]; omega⟩, ?_⟩
  apply List.ext_getElem
  · rw [macBs_len]; rfl
  · intro i h1 h2
    have hi : i < 6 := h2
    have e : (macBs [hexDig (b0.toNat / 16), hexDig (b0.toNat % 16), 58, hexDig (b1.toNat / 16), hexDig (b1.toNat % 16), 58, hexDig (b2.toNat / 16), hexDig (b2.toNat % 16), 58,
     hexDig (b3.toNat / 16), hexDig (b3.toNat % 16), 58, hexDig (b4.toNat / 16), hexDig (b4.toNat % 16), 58, hexDig (b5.toNat / 16), hexDig (b5.toNat % 16)] 6)[i] = byteOf (([b0, b1, b2, b3, b4, b5].getD i 0).toNat : Int) := by
      simp only [macBs, List.getElem_map, List.getElem_range]
      rw [if_pos hi, key i hi]
    refine e.trans ?_
    have bo : ∀ x : UInt8, byteOf (x.toNat : Int) = x := fun x => by
      apply UInt8.toNat_inj.1
      have := byteOf_val (x.toNat : Int)
      have := x.toNat_lt
      omega
    rw [bo]
    match i, hi with
    | 0, _ | 1, _ | 2, _ | 3, _ | 4, _ | 5, _ => rfl
open Go.RowKit

def frees (v : List UInt8) : Prop := ∀ c ∈ v, isBl c = false ∧ c ≠ 10
theorem frees_app {x y : List UInt8} (hx : frees x) (hy : frees y) : frees (x ++ y) := fun c hc => by
  rcases List.mem_append.1 hc with h | h
  · exact hx c h
  · exact hy c h
theorem free_num {c : UInt8} (h : 43 ≤ c.toNat ∧ c.toNat ≤ 120) : isBl c = false ∧ c ≠ 10 := by
  constructor
  · rw [← blN_u8]; unfold blN; simp only [Bool.or_eq_false_iff, beq_eq_false_iff_ne]; omega
  · rintro rfl; revert h; decide
theorem tA_free (x : Ad4) : frees (tA x) := fun c hc => free_num (by
  rcases adT_chars x c hc with rfl | h
  · decide
  · omega)
theorem tN_free {n : Int} (h : n ≤ 99999) : frees (tN n) := fun c hc => free_num (by
  have := decT_digits 8 n.toNat (by omega) c hc
  omega)
theorem hexDig_range : ∀ n : Fin 16, 43 ≤ (hexDig n.val).toNat ∧ (hexDig n.val).toNat ≤ 120 := by decide +kernel
theorem macT_free (l : List UInt8) (hl : ∀ i : Nat, (l.getD i 0).toNat < 256) : ∀ k, frees (macT l k)
  | 0 => fun c hc => by simp [macT] at hc
  | k + 1 => by
    have ih := macT_free l hl k
    have h1 := hexDig_range ⟨(l.getD k 0).toNat / 16, by have := hl k; omega⟩
    have h2 := hexDig_range ⟨(l.getD k 0).toNat % 16, by omega⟩
    intro c hc
    unfold macT at hc
    rcases List.mem_append.1 hc with hc | hc
    · rcases List.mem_append.1 hc with hc | hc
      · rcases List.mem_append.1 hc with hc | hc
        · exact ih c hc
        · by_cases hk : 0 < k
          · rw [if_pos hk] at hc; rw [List.mem_singleton.1 hc]; exact ⟨by decide, by decide⟩
          · rw [if_neg hk] at hc; cases hc
      · rw [List.mem_singleton.1 hc]; exact free_num h1
    · rw [List.mem_singleton.1 hc]; exact free_num h2
theorem tM_free (m : Mc6) : frees (tM m) := macT_free _ (fun _ => UInt8.toNat_lt _) 6
theorem app_ne {x y : List UInt8} (h : x ≠ []) : x ++ y ≠ [] := by cases x with
  | nil => exact absurd rfl h
  | cons a b => simp
theorem tN_ne (n : Int) : tN n ≠ [] := by have := decT_pos n.toNat; unfold tN; intro h; rw [h] at this; simp at this
theorem tA_ne (x : Ad4) : tA x ≠ [] := by
  have := decT_pos x.a.toNat
  intro h
  have h2 := congrArg List.length h
  unfold tA adT at h2
  simp only [List.length_append, List.length_cons, List.length_nil] at h2
  omega
theorem tM_ne (m : Mc6) : tM m ≠ [] := by
  unfold tM
  rw [macT_six]
  simp
theorem p4_tA (x : Ad4) : p4 (tA x) = x ∧ p4ok (tA x) = true := by
  have h := parse_adT x.a x.b x.c x.d
  unfold p4 p4ok tA
  rw [h]
  exact ⟨rfl, rfl⟩
theorem mc_tM (m : Mc6) : mcl (tM m) = m ∧ mcok (tM m) = true := by
  obtain ⟨h1, h2⟩ := mac_back m.a m.b m.c m.d m.e m.f
  unfold mcl mcok tM
  generalize macT [m.a, m.b, m.c, m.d, m.e, m.f] 6 = z at h1 h2 ⊢
  rw [macBs_six] at h2
  rw [if_pos h1, decide_eq_true h1]
  simp only [List.cons.injEq, and_true] at h2
  obtain ⟨a1, a2, a3, a4, a5, a6⟩ := h2
  rw [a1, a2, a3, a4, a5, a6]
  exact ⟨rfl, rfl⟩
theorem dc_tN {n : Int} (h0 : 0 ≤ n) (h1 : n ≤ 99999) : decV (tN n) = n ∧ decOk (tN n) = true := by
  obtain ⟨m, rfl⟩ : ∃ m : Nat, n = (m : Int) := ⟨n.toNat, by omega⟩
  obtain ⟨_, h2, h3⟩ := digits_word (n := m) (by omega)
  exact ⟨h3, h2⟩
/-- A line's name: what the reader wants of it. -/
def nmOk (nm : List UInt8) : Prop := (∃ c s, nm = c :: s ∧ isBl c = false ∧ (c == 35) = false) ∧ (∀ c ∈ nm ++ [32], c ≠ 61) ∧ onlyW (nm ++ [32]) = some nm
theorem ln_parts {nm v : List UInt8} (h : nmOk nm) : skipL (lnL nm v) = false ∧ cut1 61 (lnL nm v) = some (nm ++ [32], 32 :: v) := by
  obtain ⟨⟨c, s, e, h1, h2⟩, h3, _⟩ := h
  constructor
  · unfold lnL
    rw [e, List.append_assoc]
    exact skip_name h1 h2
  · have e2 : lnL nm v = (nm ++ [32]) ++ 61 :: (32 :: v) := by unfold lnL; simp
    rw [e2]
    exact cut1_name h3
theorem word_go {x : List UInt8} (hx : frees x) (hn : x ≠ []) (y : List UInt8) : wordsGo (x ++ 32 :: y) [] = x :: wordsGo y [] := by
  rw [words_free x _ [] (fun c hc => (hx c hc).1), List.nil_append]
  show wordsGo (32 :: y) x = _
  rw [wordsGo, if_pos (by decide), if_neg hn]
theorem word_end {x : List UInt8} (hx : frees x) (hn : x ≠ []) : wordsGo x [] = [x] := by
  have e := words_free x [] [] (fun c hc => (hx c hc).1)
  rw [List.append_nil, List.nil_append] at e
  rw [e, wordsGo, if_neg hn]
theorem word_skip (x : List UInt8) : wordsGo (32 :: x) [] = wordsGo x [] := rfl
theorem word_one {x : List UInt8} (hx : frees x) (hn : x ≠ []) : wordsL (32 :: x) = [x] := by
  unfold wordsL
  rw [show wordsGo (32 :: x) [] = wordsGo x [] from rfl, word_end hx hn]
theorem ln_single {nm v : List UInt8} {k : Nat} (c : Cf) {ns : List (List UInt8)} (hn : nmOk nm) (hf : (nm == [102, 105, 120, 101, 100]) = false) (ho : (nm == [111, 112, 101, 110]) = false) (hv : frees v) (hne : v ≠ []) (hk : kindK nm = some k) (hok : okV k v = true) (hnot : ns.contains nm = false) :
    lineE ns (lnL nm v) = 0 ∧ lineC c (lnL nm v) = c.put nm v ∧ lineN ns (lnL nm v) = ns ++ [nm] := by
  obtain ⟨hsk, hcut⟩ := ln_parts (v := v) hn
  have hw : onlyW (32 :: v) = some v := by unfold onlyW; rw [word_one hv hne]
  have hsk' : ¬ skipL (lnL nm v) = true := by rw [hsk]; decide
  have hf' : ¬ (nm == [102, 105, 120, 101, 100]) = true := by rw [hf]; decide
  have ho' : ¬ (nm == [111, 112, 101, 110]) = true := by rw [ho]; decide
  have honly := hn.2.2
  refine ⟨?_, ?_, ?_⟩
  · unfold lineE
    rw [if_neg hsk', hcut]
    simp only [honly]
    rw [if_neg hf', if_neg ho']
    unfold singleE
    rw [hk]
    simp only [hw]
    rw [if_pos hok, if_neg (by rw [hnot]; decide)]
  · unfold lineC
    rw [if_neg hsk', hcut]
    simp only [honly]
    rw [if_neg hf', if_neg ho']
    unfold Cf.putL
    rw [hw]
  · unfold lineN
    rw [if_neg hsk', hcut]
    simp only [honly]
    rw [if_neg hf', if_neg ho']
theorem okv0 (l : List UInt8) : okV 0 l = decOk l := rfl
theorem okv1 (l : List UInt8) : okV 1 l = p4ok l := rfl
theorem okv2 (l : List UInt8) : okV 2 l = nwK l := rfl
theorem okv3 (l : List UInt8) : okV 3 l = mcok l := rfl
theorem nm_fix : nmOk [102, 105, 120, 101, 100] := ⟨⟨_, _, rfl, by decide, by decide⟩, by decide, by decide⟩
theorem nm_opn : nmOk [111, 112, 101, 110] := ⟨⟨_, _, rfl, by decide, by decide⟩, by decide, by decide⟩
theorem ln_fixed (c : Cf) (ns : List (List UInt8)) (x : Mc6 × Ad4) : lineE ns (fxL x) = 0 ∧ lineC c (fxL x) = { c with fixed := c.fixed ++ [x] } ∧ lineN ns (fxL x) = ns := by
  obtain ⟨hsk, hcut⟩ := ln_parts (v := tM x.1 ++ [32] ++ tA x.2) nm_fix
  have hw : wordsL (32 :: (tM x.1 ++ [32] ++ tA x.2)) = [tM x.1, tA x.2] := by
    unfold wordsL
    rw [word_skip, List.append_assoc, List.singleton_append, word_go (tM_free _) (tM_ne _), word_end (tA_free _) (tA_ne _)]
  have hsk' : ¬ skipL (fxL x) = true := by unfold fxL; rw [hsk]; decide
  have hcut' : cut1 61 (fxL x) = some ([102, 105, 120, 101, 100] ++ [32], 32 :: (tM x.1 ++ [32] ++ tA x.2)) := by unfold fxL; exact hcut
  have honly := nm_fix.2.2
  obtain ⟨m1, m2⟩ := mc_tM x.1
  obtain ⟨a1, a2⟩ := p4_tA x.2
  refine ⟨?_, ?_, ?_⟩
  · unfold lineE
    rw [if_neg hsk', hcut']
    simp only [honly]
    rw [if_pos (by decide)]
    unfold fixedE
    rw [hw]
    simp only [m2, a2]
    rfl
  · unfold lineC
    rw [if_neg hsk', hcut']
    simp only [honly]
    rw [if_pos (by decide)]
    unfold Cf.addF
    rw [hw]
    simp only [m1, a1]
  · unfold lineN
    rw [if_neg hsk', hcut']
    simp only [honly]
    rw [if_pos (by decide)]
theorem op_words {p : Int} (hp : p = 17 ∨ p = 6) : protoK (opP p) = some p ∧ frees (opP p) ∧ opP p ≠ [] := by
  rcases hp with rfl | rfl
  · exact ⟨by decide, fun c hc => (by decide : ∀ c ∈ opP 17, isBl c = false ∧ c ≠ 10) c hc, by decide⟩
  · exact ⟨by decide, fun c hc => (by decide : ∀ c ∈ opP 6, isBl c = false ∧ c ≠ 10) c hc, by decide⟩
theorem ln_open (c : Cf) (ns : List (List UInt8)) (x : Int × Int × Ad4 × Int) (h : (x.1 = 17 ∨ x.1 = 6) ∧ (1 ≤ x.2.1 ∧ x.2.1 ≤ 60000) ∧ (1 ≤ x.2.2.2 ∧ x.2.2.2 ≤ 65535)) : lineE ns (opL x) = 0 ∧ lineC c (opL x) = { c with opens := c.opens ++ [x] } ∧ lineN ns (opL x) = ns := by
  obtain ⟨hp, ⟨r1, r2⟩, r3, r4⟩ := h
  obtain ⟨p1, p2, p3⟩ := op_words hp
  obtain ⟨hsk, hcut⟩ := ln_parts (v := opV x) nm_opn
  have hw : wordsL (32 :: opV x) = [opP x.1, tN x.2.1, tA x.2.2.1, tN x.2.2.2] := by
    unfold wordsL
    rw [word_skip]
    unfold opV
    simp only [List.append_assoc, List.cons_append, List.nil_append]
    rw [word_go p2 p3, word_go (tN_free (by omega)) (tN_ne _), word_go (tA_free _) (tA_ne _), word_end (tN_free (by omega)) (tN_ne _)]
  have hsk' : ¬ skipL (opL x) = true := by unfold opL; rw [hsk]; decide
  have hcut' : cut1 61 (opL x) = some ([111, 112, 101, 110] ++ [32], 32 :: opV x) := by unfold opL; exact hcut
  have honly := nm_opn.2.2
  obtain ⟨d1, d2⟩ := dc_tN (n := x.2.1) (by omega) (by omega)
  obtain ⟨d3, d4⟩ := dc_tN (n := x.2.2.2) (by omega) (by omega)
  obtain ⟨a1, a2⟩ := p4_tA x.2.2.1
  refine ⟨?_, ?_, ?_⟩
  · unfold lineE
    rw [if_neg hsk', hcut']
    simp only [honly]
    rw [if_neg (by decide), if_pos (by decide)]
    unfold openE
    rw [hw]
    simp only [p1, d2, a2, d4]
    rfl
  · unfold lineC
    rw [if_neg hsk', hcut']
    simp only [honly]
    rw [if_neg (by decide), if_pos (by decide)]
    unfold Cf.addO
    rw [hw]
    simp only [p1, d1, a1, d3]
    rfl
  · unfold lineN
    rw [if_neg hsk', hcut']
    simp only [honly]
    rw [if_neg (by decide), if_pos (by decide)]
theorem run_cons {c d : Cf} {ns ms ls : List (List UInt8)} {l : List UInt8} (h : lineE ns l = 0 ∧ lineC c l = d ∧ lineN ns l = ms) (i : Nat) : runL c ns (l :: ls) i = runL d ms ls (i + 1) := by
  rw [runL, if_pos h.1, h.2.1, h.2.2]
theorem run_fixed {c : Cf} {ns r : List (List UInt8)} : ∀ (l : List (Mc6 × Ad4)) (d : List (Mc6 × Ad4)) (i : Nat), runL { c with fixed := d } ns (l.map fxL ++ r) i = runL { c with fixed := d ++ l } ns r (i + l.length)
  | [], d, i => by simp
  | x :: l, d, i => by
    rw [List.map_cons, List.cons_append, run_cons (ln_fixed { c with fixed := d } ns x)]
    have := run_fixed (c := c) (ns := ns) (r := r) l (d ++ [x]) (i + 1)
    rw [List.append_assoc, List.singleton_append] at this
    rw [show i + (x :: l).length = i + 1 + l.length by simp; omega]
    exact this
theorem run_opens {c : Cf} {ns r : List (List UInt8)} : ∀ (l : List (Int × Int × Ad4 × Int)) (d : List (Int × Int × Ad4 × Int)) (i : Nat), (∀ x ∈ l, (x.1 = 17 ∨ x.1 = 6) ∧ (1 ≤ x.2.1 ∧ x.2.1 ≤ 60000) ∧ (1 ≤ x.2.2.2 ∧ x.2.2.2 ≤ 65535)) → runL { c with opens := d } ns (l.map opL ++ r) i = runL { c with opens := d ++ l } ns r (i + l.length)
  | [], d, i, _ => by simp
  | x :: l, d, i, h => by
    rw [List.map_cons, List.cons_append, run_cons (ln_open { c with opens := d } ns x (h x (by simp)))]
    have := run_opens (c := c) (ns := ns) (r := r) l (d ++ [x]) (i + 1) (fun y hy => h y (by simp [hy]))
    rw [List.append_assoc, List.singleton_append] at this
    rw [show i + (x :: l).length = i + 1 + l.length by simp; omega]
    exact this
theorem Ad4.ofN_self (x : Ad4) : Ad4.ofN x.num = x := by
  obtain ⟨a, b, c, d⟩ := x
  have ha := a.toNat_lt; have hb := b.toNat_lt; have hc := c.toNat_lt; have hd := d.toNat_lt
  unfold Ad4.num Ad4.ofN
  rw [be_abcd]
  simp only [Ad4.mk.injEq]
  refine ⟨?_, ?_, ?_, ?_⟩ <;> (apply UInt8.toNat_inj.1; rw [UInt8.toNat_ofNat']; omega)
theorem check_lan {c : Cf} (h : c.check = true) : c.lan = Ad4.ofN (fN c.own c.bits) := by
  unfold Cf.check Cf.checkA Cf.inner Cf.has at h
  simp only [Bool.and_eq_true, Bool.not_eq_true', Bool.not_eq_false', beq_iff_eq] at h
  obtain ⟨⟨_, h1, h2, _⟩, _⟩ := h
  have e : c.lan.num = fN c.own c.bits := h1.trans h2.1
  rw [← e, Ad4.ofN_self]
def hdN : List (List UInt8) := [[108, 97, 110], [108, 97, 110, 109, 97, 99], [119, 97, 110, 109, 97, 99], [102, 105, 114, 115, 116], [108, 97, 115, 116], [116, 105, 109, 101], [100, 110, 115], [117, 100, 112, 116, 105, 109, 101], [116, 99, 112, 116, 105, 109, 101], [105, 99, 109, 112, 116, 105, 109, 101], [108, 111, 119]]
theorem put_lan (c : Cf) (x : List UInt8) : c.put [108, 97, 110] x = { c with own := nwO x, lan := Ad4.ofN (fN (nwO x) (nwB x)), bits := nwB x } := by kernel_rfl
theorem put_lanmac (c : Cf) (x : List UInt8) : c.put [108, 97, 110, 109, 97, 99] x = { c with lanmac := mcl x } := by kernel_rfl
theorem put_wanmac (c : Cf) (x : List UInt8) : c.put [119, 97, 110, 109, 97, 99] x = { c with wanmac := mcl x } := by kernel_rfl
theorem put_first (c : Cf) (x : List UInt8) : c.put [102, 105, 114, 115, 116] x = { c with first := p4 x } := by kernel_rfl
theorem put_last (c : Cf) (x : List UInt8) : c.put [108, 97, 115, 116] x = { c with last := p4 x } := by kernel_rfl
theorem put_time (c : Cf) (x : List UInt8) : c.put [116, 105, 109, 101] x = { c with time := decV x } := by kernel_rfl
theorem put_dns (c : Cf) (x : List UInt8) : c.put [100, 110, 115] x = { c with dns := p4 x } := by kernel_rfl
theorem put_udptime (c : Cf) (x : List UInt8) : c.put [117, 100, 112, 116, 105, 109, 101] x = { c with udp := decV x } := by kernel_rfl
theorem put_tcptime (c : Cf) (x : List UInt8) : c.put [116, 99, 112, 116, 105, 109, 101] x = { c with tcp := decV x } := by kernel_rfl
theorem put_icmptime (c : Cf) (x : List UInt8) : c.put [105, 99, 109, 112, 116, 105, 109, 101] x = { c with icmp := decV x } := by kernel_rfl
theorem put_low (c : Cf) (x : List UInt8) : c.put [108, 111, 119] x = { c with low := decV x } := by kernel_rfl
set_option maxHeartbeats 4000000 in
theorem run_head {c : Cf} (hr : Rng c) (hl : c.lan = Ad4.ofN (fN c.own c.bits)) (r : List (List UInt8)) : runL usualC [] (hdL c ++ r) 0 = runL { c with fixed := [], opens := [] } hdN r 11 := by
  unfold hdL
  simp only [List.cons_append, List.nil_append]
  have hb : c.bits = ((c.bits.toNat : Nat) : Int) := by have := hr.bits; omega
  have hX : tA c.own ++ 47 :: tN c.bits = netX c.own c.bits.toNat := rfl
  obtain ⟨o1, o2, o3⟩ := net_read c.own (n := c.bits.toNat) (by have := hr.bits; omega)
  rw [← hX] at o1 o2 o3
  rw [← hb] at o2
  have s0 := ln_single (usualC) (ns := []) (nm := [108, 97, 110]) (v := tA c.own ++ 47 :: tN c.bits) (k := 2) ⟨⟨_, _, rfl, by decide, by decide⟩, by decide, by decide⟩ (by decide) (by decide) (frees_app (tA_free _) (fun y hy => (List.mem_cons.1 hy).elim (fun h => by rw [h]; exact ⟨by decide, by decide⟩) (fun h => tN_free (by have := hr.bits; omega) y h))) (app_ne (tA_ne _)) (by decide) ((okv2 _).trans o3) (by decide)
  rw [show (usualC : Cf).put [108, 97, 110] (tA c.own ++ 47 :: tN c.bits) = { usualC with own := c.own, lan := c.lan, bits := c.bits } from by rw [put_lan, o1, o2, ← hl]] at s0
  simp only [List.nil_append] at s0
  rw [run_cons s0]
  have s1 := ln_single ({ usualC with own := c.own, lan := c.lan, bits := c.bits }) (ns := [[108, 97, 110]]) (nm := [108, 97, 110, 109, 97, 99]) (v := tM c.lanmac) (k := 3) ⟨⟨_, _, rfl, by decide, by decide⟩, by decide, by decide⟩ (by decide) (by decide) (tM_free _) (tM_ne _) (by decide) ((okv3 _).trans (mc_tM _).2) (by decide)
  rw [show ({ usualC with own := c.own, lan := c.lan, bits := c.bits } : Cf).put [108, 97, 110, 109, 97, 99] (tM c.lanmac) = { usualC with own := c.own, lan := c.lan, bits := c.bits, lanmac := c.lanmac } from by rw [put_lanmac, (mc_tM c.lanmac).1]] at s1
  simp only [List.cons_append, List.nil_append] at s1
  rw [run_cons s1]
  have s2 := ln_single ({ usualC with own := c.own, lan := c.lan, bits := c.bits, lanmac := c.lanmac }) (ns := [[108, 97, 110], [108, 97, 110, 109, 97, 99]]) (nm := [119, 97, 110, 109, 97, 99]) (v := tM c.wanmac) (k := 3) ⟨⟨_, _, rfl, by decide, by decide⟩, by decide, by decide⟩ (by decide) (by decide) (tM_free _) (tM_ne _) (by decide) ((okv3 _).trans (mc_tM _).2) (by decide)
  rw [show ({ usualC with own := c.own, lan := c.lan, bits := c.bits, lanmac := c.lanmac } : Cf).put [119, 97, 110, 109, 97, 99] (tM c.wanmac) = { usualC with own := c.own, lan := c.lan, bits := c.bits, lanmac := c.lanmac, wanmac := c.wanmac } from by rw [put_wanmac, (mc_tM c.wanmac).1]] at s2
  simp only [List.cons_append, List.nil_append] at s2
  rw [run_cons s2]
  have s3 := ln_single ({ usualC with own := c.own, lan := c.lan, bits := c.bits, lanmac := c.lanmac, wanmac := c.wanmac }) (ns := [[108, 97, 110], [108, 97, 110, 109, 97, 99], [119, 97, 110, 109, 97, 99]]) (nm := [102, 105, 114, 115, 116]) (v := tA c.first) (k := 1) ⟨⟨_, _, rfl, by decide, by decide⟩, by decide, by decide⟩ (by decide) (by decide) (tA_free _) (tA_ne _) (by decide) ((okv1 _).trans (p4_tA _).2) (by decide)
  rw [show ({ usualC with own := c.own, lan := c.lan, bits := c.bits, lanmac := c.lanmac, wanmac := c.wanmac } : Cf).put [102, 105, 114, 115, 116] (tA c.first) = { usualC with own := c.own, lan := c.lan, bits := c.bits, lanmac := c.lanmac, wanmac := c.wanmac, first := c.first } from by rw [put_first, (p4_tA c.first).1]] at s3
  simp only [List.cons_append, List.nil_append] at s3
  rw [run_cons s3]
  have s4 := ln_single ({ usualC with own := c.own, lan := c.lan, bits := c.bits, lanmac := c.lanmac, wanmac := c.wanmac, first := c.first }) (ns := [[108, 97, 110], [108, 97, 110, 109, 97, 99], [119, 97, 110, 109, 97, 99], [102, 105, 114, 115, 116]]) (nm := [108, 97, 115, 116]) (v := tA c.last) (k := 1) ⟨⟨_, _, rfl, by decide, by decide⟩, by decide, by decide⟩ (by decide) (by decide) (tA_free _) (tA_ne _) (by decide) ((okv1 _).trans (p4_tA _).2) (by decide)
  rw [show ({ usualC with own := c.own, lan := c.lan, bits := c.bits, lanmac := c.lanmac, wanmac := c.wanmac, first := c.first } : Cf).put [108, 97, 115, 116] (tA c.last) = { usualC with own := c.own, lan := c.lan, bits := c.bits, lanmac := c.lanmac, wanmac := c.wanmac, first := c.first, last := c.last } from by rw [put_last, (p4_tA c.last).1]] at s4
  simp only [List.cons_append, List.nil_append] at s4
  rw [run_cons s4]
  have s5 := ln_single ({ usualC with own := c.own, lan := c.lan, bits := c.bits, lanmac := c.lanmac, wanmac := c.wanmac, first := c.first, last := c.last }) (ns := [[108, 97, 110], [108, 97, 110, 109, 97, 99], [119, 97, 110, 109, 97, 99], [102, 105, 114, 115, 116], [108, 97, 115, 116]]) (nm := [116, 105, 109, 101]) (v := tN c.time) (k := 0) ⟨⟨_, _, rfl, by decide, by decide⟩, by decide, by decide⟩ (by decide) (by decide) (tN_free (by have := hr.time; omega)) (tN_ne _) (by decide) ((okv0 _).trans (dc_tN (by have := hr.time; omega) (by have := hr.time; omega)).2) (by decide)
  rw [show ({ usualC with own := c.own, lan := c.lan, bits := c.bits, lanmac := c.lanmac, wanmac := c.wanmac, first := c.first, last := c.last } : Cf).put [116, 105, 109, 101] (tN c.time) = { usualC with own := c.own, lan := c.lan, bits := c.bits, lanmac := c.lanmac, wanmac := c.wanmac, first := c.first, last := c.last, time := c.time } from by rw [put_time, (dc_tN (n := c.time) (by have := hr.time; omega) (by have := hr.time; omega)).1]] at s5
  simp only [List.cons_append, List.nil_append] at s5
  rw [run_cons s5]
  have s6 := ln_single ({ usualC with own := c.own, lan := c.lan, bits := c.bits, lanmac := c.lanmac, wanmac := c.wanmac, first := c.first, last := c.last, time := c.time }) (ns := [[108, 97, 110], [108, 97, 110, 109, 97, 99], [119, 97, 110, 109, 97, 99], [102, 105, 114, 115, 116], [108, 97, 115, 116], [116, 105, 109, 101]]) (nm := [100, 110, 115]) (v := tA c.dns) (k := 1) ⟨⟨_, _, rfl, by decide, by decide⟩, by decide, by decide⟩ (by decide) (by decide) (tA_free _) (tA_ne _) (by decide) ((okv1 _).trans (p4_tA _).2) (by decide)
  rw [show ({ usualC with own := c.own, lan := c.lan, bits := c.bits, lanmac := c.lanmac, wanmac := c.wanmac, first := c.first, last := c.last, time := c.time } : Cf).put [100, 110, 115] (tA c.dns) = { usualC with own := c.own, lan := c.lan, bits := c.bits, lanmac := c.lanmac, wanmac := c.wanmac, first := c.first, last := c.last, time := c.time, dns := c.dns } from by rw [put_dns, (p4_tA c.dns).1]] at s6
  simp only [List.cons_append, List.nil_append] at s6
  rw [run_cons s6]
  have s7 := ln_single ({ usualC with own := c.own, lan := c.lan, bits := c.bits, lanmac := c.lanmac, wanmac := c.wanmac, first := c.first, last := c.last, time := c.time, dns := c.dns }) (ns := [[108, 97, 110], [108, 97, 110, 109, 97, 99], [119, 97, 110, 109, 97, 99], [102, 105, 114, 115, 116], [108, 97, 115, 116], [116, 105, 109, 101], [100, 110, 115]]) (nm := [117, 100, 112, 116, 105, 109, 101]) (v := tN c.udp) (k := 0) ⟨⟨_, _, rfl, by decide, by decide⟩, by decide, by decide⟩ (by decide) (by decide) (tN_free (by have := hr.udp; omega)) (tN_ne _) (by decide) ((okv0 _).trans (dc_tN (by have := hr.udp; omega) (by have := hr.udp; omega)).2) (by decide)
  rw [show ({ usualC with own := c.own, lan := c.lan, bits := c.bits, lanmac := c.lanmac, wanmac := c.wanmac, first := c.first, last := c.last, time := c.time, dns := c.dns } : Cf).put [117, 100, 112, 116, 105, 109, 101] (tN c.udp) = { usualC with own := c.own, lan := c.lan, bits := c.bits, lanmac := c.lanmac, wanmac := c.wanmac, first := c.first, last := c.last, time := c.time, dns := c.dns, udp := c.udp } from by rw [put_udptime, (dc_tN (n := c.udp) (by have := hr.udp; omega) (by have := hr.udp; omega)).1]] at s7
  simp only [List.cons_append, List.nil_append] at s7
  rw [run_cons s7]
  have s8 := ln_single ({ usualC with own := c.own, lan := c.lan, bits := c.bits, lanmac := c.lanmac, wanmac := c.wanmac, first := c.first, last := c.last, time := c.time, dns := c.dns, udp := c.udp }) (ns := [[108, 97, 110], [108, 97, 110, 109, 97, 99], [119, 97, 110, 109, 97, 99], [102, 105, 114, 115, 116], [108, 97, 115, 116], [116, 105, 109, 101], [100, 110, 115], [117, 100, 112, 116, 105, 109, 101]]) (nm := [116, 99, 112, 116, 105, 109, 101]) (v := tN c.tcp) (k := 0) ⟨⟨_, _, rfl, by decide, by decide⟩, by decide, by decide⟩ (by decide) (by decide) (tN_free (by have := hr.tcp; omega)) (tN_ne _) (by decide) ((okv0 _).trans (dc_tN (by have := hr.tcp; omega) (by have := hr.tcp; omega)).2) (by decide)
  rw [show ({ usualC with own := c.own, lan := c.lan, bits := c.bits, lanmac := c.lanmac, wanmac := c.wanmac, first := c.first, last := c.last, time := c.time, dns := c.dns, udp := c.udp } : Cf).put [116, 99, 112, 116, 105, 109, 101] (tN c.tcp) = { usualC with own := c.own, lan := c.lan, bits := c.bits, lanmac := c.lanmac, wanmac := c.wanmac, first := c.first, last := c.last, time := c.time, dns := c.dns, udp := c.udp, tcp := c.tcp } from by rw [put_tcptime, (dc_tN (n := c.tcp) (by have := hr.tcp; omega) (by have := hr.tcp; omega)).1]] at s8
  simp only [List.cons_append, List.nil_append] at s8
  rw [run_cons s8]
  have s9 := ln_single ({ usualC with own := c.own, lan := c.lan, bits := c.bits, lanmac := c.lanmac, wanmac := c.wanmac, first := c.first, last := c.last, time := c.time, dns := c.dns, udp := c.udp, tcp := c.tcp }) (ns := [[108, 97, 110], [108, 97, 110, 109, 97, 99], [119, 97, 110, 109, 97, 99], [102, 105, 114, 115, 116], [108, 97, 115, 116], [116, 105, 109, 101], [100, 110, 115], [117, 100, 112, 116, 105, 109, 101], [116, 99, 112, 116, 105, 109, 101]]) (nm := [105, 99, 109, 112, 116, 105, 109, 101]) (v := tN c.icmp) (k := 0) ⟨⟨_, _, rfl, by decide, by decide⟩, by decide, by decide⟩ (by decide) (by decide) (tN_free (by have := hr.icmp; omega)) (tN_ne _) (by decide) ((okv0 _).trans (dc_tN (by have := hr.icmp; omega) (by have := hr.icmp; omega)).2) (by decide)
  rw [show ({ usualC with own := c.own, lan := c.lan, bits := c.bits, lanmac := c.lanmac, wanmac := c.wanmac, first := c.first, last := c.last, time := c.time, dns := c.dns, udp := c.udp, tcp := c.tcp } : Cf).put [105, 99, 109, 112, 116, 105, 109, 101] (tN c.icmp) = { usualC with own := c.own, lan := c.lan, bits := c.bits, lanmac := c.lanmac, wanmac := c.wanmac, first := c.first, last := c.last, time := c.time, dns := c.dns, udp := c.udp, tcp := c.tcp, icmp := c.icmp } from by rw [put_icmptime, (dc_tN (n := c.icmp) (by have := hr.icmp; omega) (by have := hr.icmp; omega)).1]] at s9
  simp only [List.cons_append, List.nil_append] at s9
  rw [run_cons s9]
  have s10 := ln_single ({ usualC with own := c.own, lan := c.lan, bits := c.bits, lanmac := c.lanmac, wanmac := c.wanmac, first := c.first, last := c.last, time := c.time, dns := c.dns, udp := c.udp, tcp := c.tcp, icmp := c.icmp }) (ns := [[108, 97, 110], [108, 97, 110, 109, 97, 99], [119, 97, 110, 109, 97, 99], [102, 105, 114, 115, 116], [108, 97, 115, 116], [116, 105, 109, 101], [100, 110, 115], [117, 100, 112, 116, 105, 109, 101], [116, 99, 112, 116, 105, 109, 101], [105, 99, 109, 112, 116, 105, 109, 101]]) (nm := [108, 111, 119]) (v := tN c.low) (k := 0) ⟨⟨_, _, rfl, by decide, by decide⟩, by decide, by decide⟩ (by decide) (by decide) (tN_free (by have := hr.low; omega)) (tN_ne _) (by decide) ((okv0 _).trans (dc_tN (by have := hr.low; omega) (by have := hr.low; omega)).2) (by decide)
  rw [show ({ usualC with own := c.own, lan := c.lan, bits := c.bits, lanmac := c.lanmac, wanmac := c.wanmac, first := c.first, last := c.last, time := c.time, dns := c.dns, udp := c.udp, tcp := c.tcp, icmp := c.icmp } : Cf).put [108, 111, 119] (tN c.low) = { usualC with own := c.own, lan := c.lan, bits := c.bits, lanmac := c.lanmac, wanmac := c.wanmac, first := c.first, last := c.last, time := c.time, dns := c.dns, udp := c.udp, tcp := c.tcp, icmp := c.icmp, low := c.low } from by rw [put_low, (dc_tN (n := c.low) (by have := hr.low; omega) (by have := hr.low; omega)).1]] at s10
  simp only [List.cons_append, List.nil_append] at s10
  rw [run_cons s10]
  rfl
theorem hd_facts {c : Cf} (hr : Rng c) : ∀ l ∈ linesC c, (∀ x ∈ l, x ≠ 10) ∧ l.length ≤ 60 := by
  have one : ∀ nm v : List UInt8, nm ∈ hdN ++ [[102, 105, 120, 101, 100], [111, 112, 101, 110]] → (∀ x ∈ v, x ≠ 10) → v.length ≤ 40 → (∀ x ∈ lnL nm v, x ≠ 10) ∧ (lnL nm v).length ≤ 60 := fun nm v hn hv hl => by
    have h1 := (by decide : ∀ nm ∈ hdN ++ [[102, 105, 120, 101, 100], [111, 112, 101, 110]], (∀ x ∈ nm ++ [32, 61, 32], x ≠ 10) ∧ nm.length ≤ 8) nm hn
    constructor
    · intro x hx
      unfold lnL at hx
      rcases List.mem_append.1 hx with h | h
      · exact h1.1 x h
      · exact hv x h
    · unfold lnL
      simp only [List.length_append, List.length_cons, List.length_nil]
      omega
  have fr : ∀ {v : List UInt8}, frees v → ∀ x ∈ v, x ≠ 10 := fun h x hx => (h x hx).2
  have sp : ∀ {x y : List UInt8}, (∀ c ∈ x, c ≠ 10) → (∀ c ∈ y, c ≠ 10) → ∀ c ∈ x ++ [32] ++ y, c ≠ 10 := fun hx hy c hc => by
    rcases List.mem_append.1 hc with h | h
    · rcases List.mem_append.1 h with h | h
      · exact hx c h
      · rw [List.mem_singleton.1 h]; decide
    · exact hy c h
  intro l hl
  unfold linesC at hl
  rcases List.mem_append.1 hl with hl | hl
  · rcases List.mem_append.1 hl with hl | hl
    · unfold hdL at hl
      simp only [List.mem_cons, List.not_mem_nil, or_false] at hl
      rcases hl with rfl | rfl | rfl | rfl | rfl | rfl | rfl | rfl | rfl | rfl | rfl
      · exact one _ _ (by decide) (fun y hy => (List.mem_append.1 hy).elim (fun h => fr (tA_free _) y h) (fun h => (List.mem_cons.1 h).elim (fun h => by rw [h]; decide) (fun h => fr (tN_free (by have := hr.bits; omega)) y h))) (by have h1 := tA_len c.own; have h2 := tN_len (n := c.bits) (by have := hr.bits; omega); simp only [List.length_append, List.length_cons]; omega)
      · exact one _ _ (by decide) (fr (tM_free _)) (by have := tM_len c.lanmac; omega)
      · exact one _ _ (by decide) (fr (tM_free _)) (by have := tM_len c.wanmac; omega)
      · exact one _ _ (by decide) (fr (tA_free _)) (by have := tA_len c.first; omega)
      · exact one _ _ (by decide) (fr (tA_free _)) (by have := tA_len c.last; omega)
      · exact one _ _ (by decide) (fr (tN_free (by have := hr.time; omega))) (by have := tN_len (n := c.time) (by have := hr.time; omega); omega)
      · exact one _ _ (by decide) (fr (tA_free _)) (by have := tA_len c.dns; omega)
      · exact one _ _ (by decide) (fr (tN_free (by have := hr.udp; omega))) (by have := tN_len (n := c.udp) (by have := hr.udp; omega); omega)
      · exact one _ _ (by decide) (fr (tN_free (by have := hr.tcp; omega))) (by have := tN_len (n := c.tcp) (by have := hr.tcp; omega); omega)
      · exact one _ _ (by decide) (fr (tN_free (by have := hr.icmp; omega))) (by have := tN_len (n := c.icmp) (by have := hr.icmp; omega); omega)
      · exact one _ _ (by decide) (fr (tN_free (by have := hr.low; omega))) (by have := tN_len (n := c.low) (by have := hr.low; omega); omega)
    · obtain ⟨x, _, rfl⟩ := List.mem_map.1 hl
      have h1 := tM_len x.1; have h2 := tA_len x.2
      exact one _ _ (by decide) (sp (fr (tM_free _)) (fr (tA_free _))) (by simp only [List.length_append, List.length_cons, List.length_nil]; omega)
  · obtain ⟨x, hx, rfl⟩ := List.mem_map.1 hl
    obtain ⟨hp, ⟨r1, r2⟩, r3, r4⟩ := hr.op x hx
    have h1 := opV_len r2 r4
    refine one _ _ (by decide) ?_ (by omega)
    unfold opV
    exact sp (sp (sp (fr (op_words hp).2.1) (fr (tN_free (by omega)))) (fr (tA_free _))) (fr (tN_free (by omega)))
theorem text_back {c : Cf} (h : c.check = true) : parseS (textS c) = (c, 0, 0) := by
  have hr := check_rng h
  have hf := hd_facts hr
  have hn : (linesC c).length ≤ 75 := by
    have h1 := hr.fixed; have h2 := hr.opens
    unfold linesC hdL
    simp only [List.length_append, List.length_map, List.length_cons, List.length_nil]
    omega
  have hlen : (txt (linesC c)).length ≤ 4575 := Nat.le_trans (txt_len (k := 60) fun l hl => (hf l hl).2) (by omega)
  have hlines : linesL (txt (linesC c)) = linesC c := lines_txt fun l hl => (hf l hl).1
  have hrun : runL usualC [] (linesC c) 0 = .ok (c, hdN) := by
    unfold linesC
    rw [List.append_assoc, run_head hr (check_lan h)]
    have e1 := run_fixed (c := { c with opens := [] }) (ns := hdN) (r := c.opens.map opL) c.fixed [] 11
    have e2 := run_opens (c := c) (ns := hdN) (r := []) c.opens [] (11 + c.fixed.length) hr.op
    rw [List.append_nil, List.nil_append] at e2
    rw [List.nil_append] at e1
    exact e1.trans e2
  unfold textS
  rw [if_pos h]
  unfold parseS
  rw [if_neg (by omega), hlines, if_neg (by omega), hrun]
  have hfill : c.fill hdN = c := by
    unfold Cf.fill Cf.fill1
    rw [if_pos (by decide), if_pos (by decide)]
  simp only [hfill, h]
  rfl
open Go.RowKit

theorem run_err : ∀ {ls : List (List UInt8)} {c : Cf} {ns : List (List UInt8)} {i j : Nat} {e : Int}, runL c ns ls i = .error (j, e) → e ≠ 0
  | [], _, _, _, _, _, h => by cases h
  | l :: ls, c, ns, i, j, e, h => by
    rw [runL] at h
    split at h
    · exact run_err h
    · rename_i hn
      injection h with h
      injection h with _ h
      rw [← h]
      exact hn
theorem parse_ok {t : List UInt8} {c : Cf} {l : Int} (h : parseS t = (c, l, 0)) : c.check = true := by
  unfold parseS at h
  split at h
  · cases h
  split at h
  · cases h
  split at h
  · rename_i i e he
    have hn := run_err he
    injection h with _ h
    injection h with _ h
    exact absurd h hn
  split at h
  · rename_i hc; cases h; exact hc
  · cases h
theorem text_len {c : Cf} (h : c.check = true) : (textS c).length ≤ 4575 := by
  have hr := check_rng h
  have hn : (linesC c).length ≤ 75 := by
    have h1 := hr.fixed; have h2 := hr.opens
    unfold linesC hdL
    simp only [List.length_append, List.length_map, List.length_cons, List.length_nil]
    omega
  unfold textS
  rw [if_pos h]
  exact Nat.le_trans (txt_len (k := 60) fun l hl => (hd_facts hr l hl).2) (by omega)
set_option linter.unusedVariables false in
set_option linter.unusedSimpArgs false in
set_option maxRecDepth 100000 in
set_option maxHeartbeats 16000000 in
theorem confBack_w (t : List UInt8) (w : World) (hT : Tab w) : Calls Tryd.prog 5 #[.string ⟨t.toArray⟩] w fun e w' => e = .returned (.bool true) ∧ Below w.heap.size w w' := by
  have bel := Below.refl w.heap.size w
  go_enter Tryd.func5, Tryd.ntmps5
  go_wp2_with fail
  with_reducible refine (awake_any _).mono ?_
  rintro e w1 ⟨rfl, b1⟩
  replace bel := bel.trans (b1.mono bel.size)
  clear b1
  by_cases hl : 3000 < t.length
  · have hl_ : (3000 : Int) < t.length := by omega
    have R13 := fun W => st_len t 3 W
    go_wp2_with fail
    clear R13
    go_ret
    exact ⟨rfl, bel⟩
  have hl_ : decide ((3000 : Int) < t.length) = false := decide_eq_false (by omega)
  have HTL : Hid (t.length ≤ 1000000) := Lib.hid (by omega)
  obtain ⟨cc, ll, ee, hps⟩ : ∃ c l e, parseS t = (c, l, e) := ⟨_, _, _, rfl⟩
  have HPS := Lib.hid hps
  clear hps
  have R13 := fun W => st_len t 3 W
  go_wp2_with fail
  clear R13
  with_reducible refine (cparse_is HPS.out HTL.out _).mono ?_
  rintro e w2 ⟨Fx, nf, cf, Ox, nx, cx, rfl, hf, ho, frF, frO, b2⟩
  replace bel := bel.trans (b2.mono bel.size)
  clear b2
  replace hf : Sle fxf 10 w2 (Fx) (nf) (cf) (cc.fixed) := hf
  replace ho : Sle opf 7 w2 (Ox) (nx) (cx) (cc.opens) := ho
  by_cases he : ee = 0
  rotate_left
  · have e1 : (ee != 0) = true := by rw [bne, beq_eq_false_iff_ne.2 he]; rfl
    clear he
    go_wp2_with (first | ((with_reducible show wpList _ _ _ (⟨some 3, _, _, _, _, _⟩ :: _) _ _); refine wpList_new_a rfl 32 rfl #[.int .u8 0, .int .u8 0, .int .u8 0, .int .u8 0, .int .u8 0, .int .u8 0, .int .u8 0, .int .u8 0, .int .i64 0, .int .u8 0, .int .u8 0, .int .u8 0, .int .u8 0, .int .u8 0, .int .u8 0, .int .u8 0, .int .u8 0, .int .u8 0, .int .u8 0, .int .u8 0, .int .u8 0, .int .u8 0, .int .u8 0, .int .u8 0, .int .u8 0, .int .u8 0, .int .u8 0, .int .u8 0, .int .u8 0, .int .i64 0, .int .u8 0, .int .u8 0, .int .u8 0, .int .u8 0, .int .i64 0, .int .i64 0, .int .i64 0, .int .i64 0, .slice none 0 0, .slice none 0 0] (by kernel_rfl) ?_; intro g3 w3 ge hh bb; have av_hf_ca := hf.av_new ge; have av_ho_ca := ho.av_new ge; have oca := Nat.le_trans bel.size ge; replace hf := hf.below bb; replace ho := ho.below bb; replace bel := bel.trans (bb.mono bel.size); have hca := hh; clear hh ge bb) | ((with_reducible show wpList _ _ _ (⟨none, Op.store _ (.tmp 3) _, _, _, _, _⟩ :: _) _ _); refine wpList_store_blk rfl 32 (.tmp 3) (.tmp 18) rfl g3 rfl _ rfl _ 32 hca (by rfl) (by kernel_rfl) (by kernel_rfl) ?_; intro w4 hq gr; replace hf := hf.away av_hf_ca gr; replace ho := ho.away av_ho_ca gr; replace bel := below_grown bel gr oca bel.size; clear hca; have hca := hq; clear hq gr))
    go_ret
    exact ⟨rfl, bel⟩
  have e1 : (ee != 0) = false := by rw [he]; rfl
  have HCH : Hid (cc.check = true) := Lib.hid (parse_ok (t := t) (l := ll) (by rw [HPS.out, he]))
  have HRG := Lib.hid (check_rng HCH.out)
  have HTL3 := text_len HCH.out
  obtain ⟨ts, hts⟩ : ∃ z, textS cc = z := ⟨_, rfl⟩
  have HPT : Hid (parseS ts = (cc, 0, 0)) := Lib.hid (by rw [← hts]; exact text_back HCH.out)
  rw [hts] at HTL3
  have HTS2 : Hid (ts.length ≤ 1000000) := Lib.hid (by omega)
  have HTS := Lib.hid hts
  have et : (ts == ts) = true := beq_self_eq_true _
  clear hts he HTL3
  go_wp2_with (first | ((with_reducible show wpList _ _ _ (⟨some 3, _, _, _, _, _⟩ :: _) _ _); refine wpList_new_a rfl 32 rfl #[.int .u8 0, .int .u8 0, .int .u8 0, .int .u8 0, .int .u8 0, .int .u8 0, .int .u8 0, .int .u8 0, .int .i64 0, .int .u8 0, .int .u8 0, .int .u8 0, .int .u8 0, .int .u8 0, .int .u8 0, .int .u8 0, .int .u8 0, .int .u8 0, .int .u8 0, .int .u8 0, .int .u8 0, .int .u8 0, .int .u8 0, .int .u8 0, .int .u8 0, .int .u8 0, .int .u8 0, .int .u8 0, .int .u8 0, .int .i64 0, .int .u8 0, .int .u8 0, .int .u8 0, .int .u8 0, .int .i64 0, .int .i64 0, .int .i64 0, .int .i64 0, .slice none 0 0, .slice none 0 0] (by kernel_rfl) ?_; intro g3 w3 ge hh bb; have av_hf_ca := hf.av_new ge; have av_ho_ca := ho.av_new ge; have oca := Nat.le_trans bel.size ge; replace hf := hf.below bb; replace ho := ho.below bb; replace bel := bel.trans (bb.mono bel.size); have hca := hh; clear hh ge bb) | ((with_reducible show wpList _ _ _ (⟨none, Op.store _ (.tmp 3) _, _, _, _, _⟩ :: _) _ _); refine wpList_store_blk rfl 32 (.tmp 3) (.tmp 18) rfl g3 rfl _ rfl _ 32 hca (by rfl) (by kernel_rfl) (by kernel_rfl) ?_; intro w4 hq gr; replace hf := hf.away av_hf_ca gr; replace ho := ho.away av_ho_ca gr; replace bel := below_grown bel gr oca bel.size; clear hca; have hca := hq; clear hq gr; have R23 := Lib.hid (range_lit hca 0 40 (cfl cc Fx nf cf Ox nx cx) rfl)) | ((with_reducible show wpList _ _ _ (⟨some 23, _, _, _, _, _⟩ :: _) _ _); refine wpList_load_rng 32 (.tmp 3) rfl (by kernel_rfl) _ _ rfl _ R23.out _ Tryd.underlying32 rfl (by kernel_rfl) ?_))
  try clear R23
  with_reducible refine (ctext_any cc _ _ _ _ _ _ _ (hT.below bel) hf ho).mono ?_
  rintro e w5 ⟨rfl, b5⟩
  replace hca := blk_u hca b5
  replace hf := hf.below b5
  replace ho := ho.below b5
  replace bel := bel.trans (b5.mono bel.size)
  clear b5
  rw [HTS.out]
  go_wp2_with fail
  with_reducible refine (cparse_is HPT.out HTS2.out _).mono ?_
  rintro e w6 ⟨Fy, nf2, cf2, Oy, nx2, cx2, rfl, hf2, ho2, frF2, frO2, b6⟩
  have av_hf2_ca := frF2.av (hlt hca)
  have av_ho2_ca := frO2.av (hlt hca)
  replace hca := blk_u hca b6
  replace hf := hf.below b6
  replace ho := ho.below b6
  replace bel := bel.trans (b6.mono bel.size)
  clear b6
  replace hf2 : Sle fxf 10 w6 (Fy) (nf2) (cf2) (cc.fixed) := hf2
  replace ho2 : Sle opf 7 w6 (Oy) (nx2) (cx2) (cc.opens) := ho2
  have hnf : nf ≤ 1000 := by rw [← hf.1]; have := HRG.out.fixed; omega
  have hnx : nx ≤ 1000 := by rw [← ho.1]; have := HRG.out.opens; omega
  have hnf2 : nf2 ≤ 1000 := by rw [← hf2.1]; have := HRG.out.fixed; omega
  have hnx2 : nx2 ≤ 1000 := by rw [← ho2.1]; have := HRG.out.opens; omega
  go_wp2_with (first | ((with_reducible show wpList _ _ _ (⟨some 7, _, _, _, _, _⟩ :: _) _ _); refine wpList_new_a rfl 32 rfl #[.int .u8 0, .int .u8 0, .int .u8 0, .int .u8 0, .int .u8 0, .int .u8 0, .int .u8 0, .int .u8 0, .int .i64 0, .int .u8 0, .int .u8 0, .int .u8 0, .int .u8 0, .int .u8 0, .int .u8 0, .int .u8 0, .int .u8 0, .int .u8 0, .int .u8 0, .int .u8 0, .int .u8 0, .int .u8 0, .int .u8 0, .int .u8 0, .int .u8 0, .int .u8 0, .int .u8 0, .int .u8 0, .int .u8 0, .int .i64 0, .int .u8 0, .int .u8 0, .int .u8 0, .int .u8 0, .int .i64 0, .int .i64 0, .int .i64 0, .int .i64 0, .slice none 0 0, .slice none 0 0] (by kernel_rfl) ?_; intro g7 w7 ge hh bb; have d_ca_da := ne_new (hlt hca) ge; have av_hf_da := hf.av_new ge; have av_ho_da := ho.av_new ge; have av_hf2_da := hf2.av_new ge; have av_ho2_da := ho2.av_new ge; have oda := Nat.le_trans bel.size ge; replace hca := blk_u hca bb; replace hf := hf.below bb; replace ho := ho.below bb; replace hf2 := hf2.below bb; replace ho2 := ho2.below bb; replace bel := bel.trans (bb.mono bel.size); have hda := hh; clear hh ge bb) | ((with_reducible show wpList _ _ _ (⟨none, Op.store _ (.tmp 7) _, _, _, _, _⟩ :: _) _ _); refine wpList_store_blk rfl 32 (.tmp 7) (.tmp 28) rfl g7 rfl _ rfl _ 32 hda (by rfl) (by kernel_rfl) (by kernel_rfl) ?_; intro w8 hq gr; replace hf := hf.away av_hf_da gr; replace ho := ho.away av_ho_da gr; replace hf2 := hf2.away av_hf2_da gr; replace ho2 := ho2.away av_ho2_da gr; replace hca := blk_a hca gr d_ca_da; replace bel := below_grown bel gr oda bel.size; clear hda; have hda := hq; clear hq gr))
  replace bel := bel.drew
  replace hca : w8.drew.heap[g3]? = _ := hca
  replace hda : w8.drew.heap[g7]? = _ := hda
  replace hf := hf.drew
  replace ho := ho.drew
  replace hf2 := hf2.drew
  replace ho2 := ho2.drew
  refine wp_region_held_drew (S := fun W => W.heap[g3]? = some (.cells (cfl cc Fx nf cf Ox nx cx).toArray 32 (0, 0)) ∧ W.heap[g7]? = some (.cells (cfl cc Fy nf2 cf2 Oy nx2 cx2).toArray 32 (0, 0))) (by kernel_rfl) ⟨hca, hda⟩ (fun hH => ?_)
  generalize w8.drew = w9 at bel hca hda hf ho hf2 ho2 hH ⊢
  refine wpAnyH_take (i := 0) (v := ?_) rfl (by kernel_rfl) (by kernel_rfl) (by kernel_rfl) (fun _ _ _ h => h) (Or.inl ⟨by rfl, ?_⟩) hH ?_
  rotate_left
  · ((intro W hW; clear hW; go_simp) <;> with_reducible rfl)
  simp only [Act.put, List.getElem_toArray, List.getElem_cons_zero, List.setIfInBounds_toArray, List.set_cons_zero, List.set_cons_succ]
  refine wpAnyH_take (i := 1) (v := ?_) rfl (by kernel_rfl) (by kernel_rfl) (by kernel_rfl) (fun _ _ _ h => h) (Or.inl ⟨by rfl, ?_⟩) hH ?_
  rotate_left
  · ((intro W hW; clear hW; go_simp) <;> with_reducible rfl)
  simp only [Act.put, List.getElem_toArray, List.getElem_cons_zero, List.getElem_cons_succ, List.setIfInBounds_toArray, List.set_cons_zero, List.set_cons_succ]
  refine wpAnyH_take (i := 2) (v := ?_) rfl (by kernel_rfl) (by kernel_rfl) (by kernel_rfl) (fun _ _ _ h => h) (Or.inl ⟨by rfl, ?_⟩) hH ?_
  rotate_left
  · ((intro W hW; clear hW; go_simp) <;> with_reducible rfl)
  simp only [Act.put, List.getElem_toArray, List.getElem_cons_zero, List.getElem_cons_succ, List.setIfInBounds_toArray, List.set_cons_zero, List.set_cons_succ]
  refine wpAnyH_take (i := 3) (v := ?_) rfl (by kernel_rfl) (by kernel_rfl) (by kernel_rfl) (fun _ _ _ h => h) (Or.inl ⟨by rfl, ?_⟩) hH ?_
  rotate_left
  · ((intro W hW; clear hW; go_simp) <;> with_reducible rfl)
  simp only [Act.put, List.getElem_toArray, List.getElem_cons_zero, List.getElem_cons_succ, List.setIfInBounds_toArray, List.set_cons_zero, List.set_cons_succ]
  refine wpAnyH_take (i := 4) (v := ?_) rfl (by kernel_rfl) (by kernel_rfl) (by kernel_rfl) (fun _ _ _ h => h) (Or.inl ⟨by rfl, ?_⟩) hH ?_
  rotate_left
  · ((intro W hW; clear hW; go_simp) <;> with_reducible rfl)
  simp only [Act.put, List.getElem_toArray, List.getElem_cons_zero, List.getElem_cons_succ, List.setIfInBounds_toArray, List.set_cons_zero, List.set_cons_succ]
  refine wpAnyH_take (i := 5) (v := ?_) rfl (by kernel_rfl) (by kernel_rfl) (by kernel_rfl) (fun _ _ _ h => h) (Or.inl ⟨by rfl, ?_⟩) hH ?_
  rotate_left
  · ((intro W hW; clear hW; go_simp) <;> with_reducible rfl)
  simp only [Act.put, List.getElem_toArray, List.getElem_cons_zero, List.getElem_cons_succ, List.setIfInBounds_toArray, List.set_cons_zero, List.set_cons_succ]
  refine wpAnyH_take (i := 6) (v := ?_) rfl (by kernel_rfl) (by kernel_rfl) (by kernel_rfl) (fun _ _ _ h => h) (Or.inl ⟨by rfl, ?_⟩) hH ?_
  rotate_left
  · ((intro W hW; clear hW; go_simp) <;> with_reducible rfl)
  simp only [Act.put, List.getElem_toArray, List.getElem_cons_zero, List.getElem_cons_succ, List.setIfInBounds_toArray, List.set_cons_zero, List.set_cons_succ]
  refine wpAnyH_take (i := 7) (v := .agg (cfl cc Fx nf cf Ox nx cx).toArray) rfl (by kernel_rfl) (by kernel_rfl) (by kernel_rfl) (fun _ _ _ h => h) (yieldsIf_load_part (by kernel_rfl) 32 _ rfl g3 0 40 rfl _ 32 (0, 0) (fun W hW => hW.1) _ rfl _ Tryd.underlying32 rfl (by kernel_rfl)) hH ?_
  simp only [Act.put, List.getElem_toArray, List.getElem_cons_zero, List.getElem_cons_succ, List.setIfInBounds_toArray, List.set_cons_zero, List.set_cons_succ]
  refine wpAnyH_take (i := 9) (v := .agg (cfl cc Fy nf2 cf2 Oy nx2 cx2).toArray) rfl (by kernel_rfl) (by kernel_rfl) (by kernel_rfl) (fun _ _ _ h => h) (yieldsIf_load_part (by kernel_rfl) 32 _ rfl g7 0 40 rfl _ 32 (0, 0) (fun W hW => hW.2) _ rfl _ Tryd.underlying32 rfl (by kernel_rfl)) hH ?_
  simp only [Act.put, List.getElem_toArray, List.getElem_cons_zero, List.getElem_cons_succ, List.setIfInBounds_toArray, List.set_cons_zero, List.set_cons_succ]
  refine wpAnyH_ready (rs := [8]) (by kernel_rfl) (by simp) ?_
  refine AllReadyH.cons (o := _) rfl (fun K hK => ?_) AllReadyH.nil
  simp only [List.getElem_toArray, List.getElem_cons_zero, List.getElem_cons_succ]
  go_simp
  with_reducible refine (own_any cc _ _ _ _ _ _ _ hf ho hnf hnx).mono ?_
  rintro e w10 ⟨Gx, ng, cg, Hx, nh, ch, rfl, hg, hh2, frG, frH, b10⟩
  dsimp only
  have av_hg_ca := frG.av (hlt hca)
  have av_hg_da := frG.av (hlt hda)
  have av_hh2_ca := frH.av (hlt hca)
  have av_hh2_da := frH.av (hlt hda)
  replace hca := blk_u hca b10
  replace hda := blk_u hda b10
  replace hf := hf.below b10
  replace ho := ho.below b10
  replace hf2 := hf2.below b10
  replace ho2 := ho2.below b10
  replace bel := bel.trans (b10.mono bel.size)
  clear b10
  replace hg : Sle fxf 10 w10 (Gx) (ng) (cg) (cc.fixed) := hg
  replace hh2 : Sle opf 7 w10 (Hx) (nh) (ch) (cc.opens) := hh2
  have hng : ng ≤ 1000 := by rw [← hg.1]; have := HRG.out.fixed; omega
  have hnh : nh ≤ 1000 := by rw [← hh2.1]; have := HRG.out.opens; omega
  refine hK.out _ _ ⟨hca, hda⟩ (fun hH11 => ?_)
  clear hK K
  refine wpAnyH_ready (rs := [10]) (by kernel_rfl) (by simp) ?_
  refine AllReadyH.cons (o := _) rfl (fun K hK => ?_) AllReadyH.nil
  simp only [List.getElem_toArray, List.getElem_cons_zero, List.getElem_cons_succ]
  go_simp
  with_reducible refine (own_any cc _ _ _ _ _ _ _ hf2 ho2 hnf2 hnx2).mono ?_
  rintro e w12 ⟨Gy, ng2, cg2, Hy, nh2, ch2, rfl, hg3, hh3, frG3, frH3, b12⟩
  dsimp only
  have av_hg3_ca := frG3.av (hlt hca)
  have av_hg3_da := frG3.av (hlt hda)
  have av_hh3_ca := frH3.av (hlt hca)
  have av_hh3_da := frH3.av (hlt hda)
  replace hca := blk_u hca b12
  replace hda := blk_u hda b12
  replace hf := hf.below b12
  replace ho := ho.below b12
  replace hf2 := hf2.below b12
  replace ho2 := ho2.below b12
  replace hg := hg.below b12
  replace hh2 := hh2.below b12
  replace bel := bel.trans (b12.mono bel.size)
  clear b12
  replace hg3 : Sle fxf 10 w12 (Gy) (ng2) (cg2) (cc.fixed) := hg3
  replace hh3 : Sle opf 7 w12 (Hy) (nh2) (ch2) (cc.opens) := hh3
  refine hK.out _ _ ⟨hca, hda⟩ (fun hH13 => ?_)
  clear hK K
  refine wpAnyH_ready (rs := [11]) (by kernel_rfl) (by simp) ?_
  refine AllReadyH.cons (o := _) rfl (fun K hK => ?_) AllReadyH.nil
  simp only [List.getElem_toArray, List.getElem_cons_zero, List.getElem_cons_succ]
  go_simp
  with_reducible refine (same_any cc _ _ _ _ _ _ _ _ _ _ _ _ _ hg hh2 hg3 hh3 hng hnh).mono ?_
  rintro e w14 ⟨rfl, b14⟩
  dsimp only
  replace hca := blk_u hca b14
  replace hda := blk_u hda b14
  replace hf := hf.below b14
  replace ho := ho.below b14
  replace hf2 := hf2.below b14
  replace ho2 := ho2.below b14
  replace hg := hg.below b14
  replace hh2 := hh2.below b14
  replace hg3 := hg3.below b14
  replace hh3 := hh3.below b14
  replace bel := bel.trans (b14.mono bel.size)
  clear b14
  clear hg
  clear hh2
  clear hg3
  clear hh3
  refine hK.out _ _ ⟨hca, hda⟩ (fun hH15 => ?_)
  clear hK K
  refine wpAnyH_take (i := 12) (v := ?_) rfl (by kernel_rfl) (by kernel_rfl) (by kernel_rfl) (fun _ _ _ h => h) (Or.inl ⟨by rfl, ?_⟩) hH15 ?_
  rotate_left
  · ((intro W hW; clear hW; go_simp) <;> with_reducible rfl)
  simp only [Act.put, List.getElem_toArray, List.getElem_cons_zero, List.getElem_cons_succ, List.setIfInBounds_toArray, List.set_cons_zero, List.set_cons_succ]
  refine wpAnyH_take (i := 13) (v := ?_) rfl (by kernel_rfl) (by kernel_rfl) (by kernel_rfl) (fun _ _ _ h => h) (Or.inl ⟨by rfl, ?_⟩) hH15 ?_
  rotate_left
  · ((intro W hW; clear hW; go_simp) <;> with_reducible rfl)
  simp only [Act.put, List.getElem_toArray, List.getElem_cons_zero, List.getElem_cons_succ, List.setIfInBounds_toArray, List.set_cons_zero, List.set_cons_succ]
  refine wpAnyH_take (i := 14) (v := .agg (cfl cc Fy nf2 cf2 Oy nx2 cx2).toArray) rfl (by kernel_rfl) (by kernel_rfl) (by kernel_rfl) (fun _ _ _ h => h) (yieldsIf_load_part (by kernel_rfl) 32 _ rfl g7 0 40 rfl _ 32 (0, 0) (fun W hW => hW.2) _ rfl _ Tryd.underlying32 rfl (by kernel_rfl)) hH15 ?_
  simp only [Act.put, List.getElem_toArray, List.getElem_cons_zero, List.getElem_cons_succ, List.setIfInBounds_toArray, List.set_cons_zero, List.set_cons_succ]
  refine wpAnyH_take (i := 16) (v := ?_) rfl (by kernel_rfl) (by kernel_rfl) (by kernel_rfl) (fun _ _ _ h => h) (Or.inl ⟨by rfl, ?_⟩) hH15 ?_
  rotate_left
  · ((intro W hW; clear hW; go_simp) <;> with_reducible rfl)
  simp only [Act.put, List.getElem_toArray, List.getElem_cons_zero, List.getElem_cons_succ, List.setIfInBounds_toArray, List.set_cons_zero, List.set_cons_succ]
  refine wpAnyH_ready (rs := [15]) (by kernel_rfl) (by simp) ?_
  refine AllReadyH.cons (o := _) rfl (fun K hK => ?_) AllReadyH.nil
  simp only [List.getElem_toArray, List.getElem_cons_zero, List.getElem_cons_succ]
  go_simp
  with_reducible refine (ctext_any cc _ _ _ _ _ _ _ (hT.below bel) hf2 ho2).mono ?_
  rintro e w16 ⟨rfl, b16⟩
  dsimp only
  replace hca := blk_u hca b16
  replace hda := blk_u hda b16
  replace hf := hf.below b16
  replace ho := ho.below b16
  replace hf2 := hf2.below b16
  replace ho2 := ho2.below b16
  replace bel := bel.trans (b16.mono bel.size)
  clear b16
  rw [HTS.out]
  refine hK.out _ _ ⟨hca, hda⟩ (fun hH17 => ?_)
  clear hK K
  refine wpAnyH_take (i := 17) (v := ?_) rfl (by kernel_rfl) (by kernel_rfl) (by kernel_rfl) (fun _ _ _ h => h) (Or.inl ⟨by rfl, ?_⟩) hH17 ?_
  rotate_left
  · ((intro W hW; clear hW; go_simp) <;> with_reducible rfl)
  simp only [Act.put, List.getElem_toArray, List.getElem_cons_zero, List.getElem_cons_succ, List.setIfInBounds_toArray, List.set_cons_zero, List.set_cons_succ]
  refine wpAnyH_take (i := 18) (v := ?_) rfl (by kernel_rfl) (by kernel_rfl) (by kernel_rfl) (fun _ _ _ h => h) (Or.inl ⟨by rfl, ?_⟩) hH17 ?_
  rotate_left
  · ((intro W hW; clear hW; go_simp) <;> with_reducible rfl)
  simp only [Act.put, List.getElem_toArray, List.getElem_cons_zero, List.getElem_cons_succ, List.setIfInBounds_toArray, List.set_cons_zero, List.set_cons_succ]
  refine wpAnyH_take (i := 19) (v := ?_) rfl (by kernel_rfl) (by kernel_rfl) (by kernel_rfl) (fun _ _ _ h => h) (Or.inl ⟨by rfl, ?_⟩) hH17 ?_
  rotate_left
  · ((intro W hW; clear hW; go_simp) <;> with_reducible rfl)
  simp only [Act.put, List.getElem_toArray, List.getElem_cons_zero, List.getElem_cons_succ, List.setIfInBounds_toArray, List.set_cons_zero, List.set_cons_succ]
  refine wpAnyH_take (i := 20) (v := .agg (cfl cc Fx nf cf Ox nx cx).toArray) rfl (by kernel_rfl) (by kernel_rfl) (by kernel_rfl) (fun _ _ _ h => h) (yieldsIf_load_part (by kernel_rfl) 32 _ rfl g3 0 40 rfl _ 32 (0, 0) (fun W hW => hW.1) _ rfl _ Tryd.underlying32 rfl (by kernel_rfl)) hH17 ?_
  simp only [Act.put, List.getElem_toArray, List.getElem_cons_zero, List.getElem_cons_succ, List.setIfInBounds_toArray, List.set_cons_zero, List.set_cons_succ]
  refine wpAnyH_ready (rs := [21]) (by kernel_rfl) (by simp) ?_
  refine AllReadyH.cons (o := _) rfl (fun K hK => ?_) AllReadyH.nil
  simp only [List.getElem_toArray, List.getElem_cons_zero, List.getElem_cons_succ]
  go_simp
  with_reducible refine (ccheck_any cc _ _ _ _ _ _ _ hf ho).mono ?_
  rintro e w18 ⟨rfl, b18⟩
  dsimp only
  replace hca := blk_u hca b18
  replace hda := blk_u hda b18
  replace hf := hf.below b18
  replace ho := ho.below b18
  replace hf2 := hf2.below b18
  replace ho2 := ho2.below b18
  replace bel := bel.trans (b18.mono bel.size)
  clear b18
  rw [HCH.out, show errC true = 0 from rfl]
  refine hK.out _ _ ⟨hca, hda⟩ (fun hH19 => ?_)
  clear hK K
  refine wpAnyH_take (i := 22) (v := ?_) rfl (by kernel_rfl) (by kernel_rfl) (by kernel_rfl) (fun _ _ _ h => h) (Or.inl ⟨by rfl, ?_⟩) hH19 ?_
  rotate_left
  · ((intro W hW; clear hW; go_simp) <;> with_reducible rfl)
  simp only [Act.put, List.getElem_toArray, List.getElem_cons_zero, List.getElem_cons_succ, List.setIfInBounds_toArray, List.set_cons_zero, List.set_cons_succ]
  refine wpAnyH_take (i := 23) (v := ?_) rfl (by kernel_rfl) (by kernel_rfl) (by kernel_rfl) (fun _ _ _ h => h) (Or.inl ⟨by rfl, ?_⟩) hH19 ?_
  rotate_left
  · ((intro W hW; clear hW; go_simp) <;> with_reducible rfl)
  simp only [Act.put, List.getElem_toArray, List.getElem_cons_zero, List.getElem_cons_succ, List.setIfInBounds_toArray, List.set_cons_zero, List.set_cons_succ]
  refine wpAnyH_take (i := 24) (v := ?_) rfl (by kernel_rfl) (by kernel_rfl) (by kernel_rfl) (fun _ _ _ h => h) (Or.inl ⟨by rfl, ?_⟩) hH19 ?_
  rotate_left
  · ((intro W hW; clear hW; go_simp) <;> with_reducible rfl)
  simp only [Act.put, List.getElem_toArray, List.getElem_cons_zero, List.getElem_cons_succ, List.setIfInBounds_toArray, List.set_cons_zero, List.set_cons_succ]
  refine wpAnyH_done (by kernel_rfl) ?_ _
  go_wp2_with fail
  go_ret
  exact ⟨rfl, bel⟩
theorem confBack_walk (s : ByteArray) (w : World) (hT : Tab w) (_ : s.size ≤ maxLen) : Calls Tryd.prog 5 #[.string s] w fun e w' => e = .returned (.bool true) ∧ Below w.heap.size w w' := by
  have h := confBack_w s.data.toList w hT
  rwa [show (⟨s.data.toList.toArray⟩ : ByteArray) = s from by rw [Array.toArray_toList]] at h
end Go.Proofs.YtdfobilagidmfaaDoor
