/- What is written is read back: texts of numbers, addresses, nets. -/
import Derived.Test.YtdfobilagidmfaaRef3a
import Derived.Test.YtdfobilagidmfaaRef3s
namespace Go.Proofs.Ytdfobilagidmfaa

theorem numGo_append : ∀ (l t : List UInt8) (v : Nat), numGo (l ++ t) v = (numGo l v).bind (numGo t)
  | [], t, v => rfl
  | c :: l, t, v => by
    rw [List.cons_append, numGo, numGo]
    split
    · rfl
    · exact numGo_append l t _
theorem numGo_dig (r v : Nat) (h : r < 10) : numGo [digT r] v = some (10 * v + r) := by
  rw [numGo, digT_val h, if_neg (by omega), numGo]; congr 1; omega
theorem numGo_decT : ∀ (k n : Nat), n < 10 ^ (k + 1) → numGo (decT n) 0 = some n := by
  intro k
  induction k with
  | zero => intro n h; rw [decT_small (by omega), numGo_dig _ _ (by omega)]; congr 1; omega
  | succ k ih =>
    intro n h
    by_cases hn : n < 10
    · rw [decT_small hn, numGo_dig _ _ hn]; congr 1; omega
    · rw [decT_more hn, numGo_append, ih (n / 10) (by rw [Nat.pow_succ] at h; omega)]
      show numGo [digT (n % 10)] (n / 10) = _
      rw [numGo_dig _ _ (by omega)]; congr 1; omega
theorem decT_pos (n : Nat) : 1 ≤ (decT n).length := by
  by_cases hn : n < 10
  · rw [decT_small hn]; simp
  · rw [decT_more hn]; simp
theorem decT_head : ∀ (k n : Nat), n < 10 ^ (k + 1) → 1 ≤ n → (decT n)[0]? ≠ some 48 := by
  intro k
  induction k with
  | zero =>
    intro n h h1
    rw [decT_small (by omega)]
    intro he
    have e : digT n = 48 := by simpa using he
    have := digT_val (n := n) (by omega)
    rw [e] at this
    have : (48 : UInt8).toNat = 48 := rfl
    omega
  | succ k ih =>
    intro n h h1
    by_cases hn : n < 10
    · exact ih n (by have : (10 : Nat) ^ 1 ≤ 10 ^ (k + 1) := Nat.pow_le_pow_right (by omega) (by omega); omega) h1
    · rw [decT_more hn, List.getElem?_append_left (decT_pos _)]
      exact ih (n / 10) (by rw [Nat.pow_succ] at h; omega) (by omega)
theorem numI_decT (n : Nat) (most : Int) (h : n < 1000000000) (hm : (n : Int) ≤ most) : numI (decT n) most = n := by
  have hl := decT_len 8 n (by omega)
  have hp := decT_pos n
  rw [numI_some most n ?_ (numGo_decT 8 n (by omega)), if_neg (by omega)]
  rintro (h1 | h1 | ⟨h1, h2⟩)
  · omega
  · omega
  · by_cases h0 : n < 10
    · rw [decT_small h0] at h1; simp at h1
    · exact decT_head 8 n (by omega) (by omega) h2
theorem decT_digits : ∀ (k n : Nat), n < 10 ^ (k + 1) → ∀ c ∈ decT n, 48 ≤ c.toNat ∧ c.toNat ≤ 57 := by
  intro k
  induction k with
  | zero =>
    intro n h c hc
    rw [decT_small (by omega)] at hc
    rw [List.mem_singleton.1 hc, digT_val (by omega)]; omega
  | succ k ih =>
    intro n h c hc
    by_cases hn : n < 10
    · rw [decT_small hn] at hc
      rw [List.mem_singleton.1 hc, digT_val hn]; omega
    · rw [decT_more hn] at hc
      rcases List.mem_append.1 hc with h1 | h1
      · exact ih (n / 10) (by rw [Nat.pow_succ] at h; omega) c h1
      · rw [List.mem_singleton.1 h1, digT_val (by omega)]; omega

theorem cut_free (b : UInt8) : ∀ (t : List UInt8) (ls : List (List UInt8)) (x : List UInt8), (∀ c ∈ t, c ≠ b) → t.foldl (cutStep b) (ls ++ [x]) = ls ++ [x ++ t]
  | [], ls, x, _ => by simp
  | c :: t, ls, x, h => by
    rw [List.foldl_cons]
    have hc : cutStep b (ls ++ [x]) c = ls ++ [x ++ [c]] := by
      unfold cutStep; rw [if_neg (h c (by simp))]; simp
    rw [hc, cut_free b t ls (x ++ [c]) (fun y hy => h y (by simp [hy]))]
    simp
theorem cut_at (b : UInt8) (l t : List UInt8) (ht : ∀ c ∈ t, c ≠ b) : cutF b (l ++ [b] ++ t) = cutF b l ++ [t] := by
  unfold cutF
  rw [List.foldl_append, List.foldl_append, List.foldl_cons, List.foldl_nil]
  have hb : cutStep b (List.foldl (cutStep b) [[]] l) b = List.foldl (cutStep b) [[]] l ++ [[]] := if_pos rfl
  rw [hb, cut_free b t _ [] ht]
  simp
theorem cut_none (b : UInt8) (t : List UInt8) (ht : ∀ c ∈ t, c ≠ b) : cutF b t = [t] := by
  have := cut_free b t [] [] ht
  simpa [cutF] using this
theorem dec_free (b : UInt8) (n : Nat) (hn : n < 1000) (hb : b.toNat < 48) : ∀ c ∈ decT n, c ≠ b := by
  intro c hc e
  have := decT_digits 2 n (by omega) c hc
  rw [e] at this; omega
theorem cut_adT (a b c d : UInt8) : cutF 46 (adT a b c d) = [decT a.toNat, decT b.toNat, decT c.toNat, decT d.toNat] := by
  have fa := dec_free 46 a.toNat (by have := a.toNat_lt; omega) (by decide)
  have fb := dec_free 46 b.toNat (by have := b.toNat_lt; omega) (by decide)
  have fc := dec_free 46 c.toNat (by have := c.toNat_lt; omega) (by decide)
  have fd := dec_free 46 d.toNat (by have := d.toNat_lt; omega) (by decide)
  unfold adT
  rw [cut_at 46 _ _ fd, cut_at 46 _ _ fc, cut_at 46 _ _ fb, cut_none 46 _ fa]
  rfl
theorem byteOf_nat (a : UInt8) : byteOf (a.toNat : Int) = a := by
  apply UInt8.toNat_inj.1
  have := byteOf_val (a.toNat : Int)
  have := a.toNat_lt
  omega
theorem adT_len (a b c d : UInt8) : (adT a b c d).length ≤ 15 := by
  have := byte_len a; have := byte_len b; have := byte_len c; have := byte_len d
  unfold adT
  simp only [List.length_append, List.length_singleton]
  omega
/-- An address's text is read as the address. -/
theorem parse_adT (a b c d : UInt8) : parse4 (adT a b c d) = some (a, b, c, d) := by
  have hl := adT_len a b c d
  have na := numI_decT a.toNat 255 (by have := a.toNat_lt; omega) (by have := a.toNat_lt; omega)
  have nb := numI_decT b.toNat 255 (by have := b.toNat_lt; omega) (by have := b.toNat_lt; omega)
  have nc := numI_decT c.toNat 255 (by have := c.toNat_lt; omega) (by have := c.toNat_lt; omega)
  have nd := numI_decT d.toNat 255 (by have := d.toNat_lt; omega) (by have := d.toNat_lt; omega)
  unfold parse4
  rw [if_neg (by omega), cut_adT]
  simp only [na, nb, nc, nd]
  rw [if_pos (by omega), byteOf_nat, byteOf_nat, byteOf_nat, byteOf_nat]
theorem adT_free (a b c d : UInt8) : ∀ x ∈ adT a b c d, x ≠ 47 := by
  intro x hx
  unfold adT at hx
  simp only [List.mem_append, List.mem_singleton] at hx
  have f := fun (u : UInt8) => dec_free 47 u.toNat (by have := u.toNat_lt; omega) (by decide)
  rcases hx with (((((h | h) | h) | h) | h) | h) | h
  · exact f a x h
  · rw [h]; decide
  · exact f b x h
  · rw [h]; decide
  · exact f c x h
  · rw [h]; decide
  · exact f d x h
/-- A net's text is read as its parts. -/
theorem split_adT (a b c d : UInt8) (n : Nat) (hn : n ≤ 32) :
    splitA (adT a b c d ++ [47] ++ decT n) = (a, b, c, d) ∧ splitN (adT a b c d ++ [47] ++ decT n) = n ∧ splitOk (adT a b c d ++ [47] ++ decT n) = true := by
  have hl := adT_len a b c d
  have h2 := decT_len 1 n (by omega)
  have hc : cutF 47 (adT a b c d ++ [47] ++ decT n) = [adT a b c d, decT n] := by
    rw [cut_at 47 _ _ (dec_free 47 n (by omega) (by decide)), cut_none 47 _ (adT_free a b c d)]; rfl
  have hlen : ¬ 18 < (adT a b c d ++ [47] ++ decT n).length := by
    simp only [List.length_append, List.length_singleton]; omega
  have hm := numI_decT n 32 (by omega) (by omega)
  unfold splitA splitN splitOk
  rw [if_neg hlen, if_neg hlen, if_neg hlen, hc]
  simp only [parse_adT, hm]
  refine ⟨rfl, trivial, ?_⟩
  simp
end Go.Proofs.Ytdfobilagidmfaa
