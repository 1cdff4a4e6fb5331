/- Nets, bit by bit, as numbers: of no program. -/
namespace Go.Proofs.Ythcjepafcemmnaa

theorem and_clear (v j : Nat) (hv : v < 2 ^ 32) (hj : j < 32) : v &&& (4294967295 - 2 ^ j) = 2 ^ (j + 1) * (v / 2 ^ (j + 1)) + v % 2 ^ j := by
  have hlt : v % 2 ^ j < 2 ^ (j + 1) := by
    have h1 : v % 2 ^ j < 2 ^ j := Nat.mod_lt _ (Nat.two_pow_pos j)
    have h2 : (2 : Nat) ^ (j + 1) = 2 * 2 ^ j := by rw [Nat.pow_succ]; omega
    omega
  apply Nat.eq_of_testBit_eq
  intro i
  have hm : (4294967295 - 2 ^ j : Nat) = 2 ^ 32 - (2 ^ j + 1) := by omega
  have hpl : (2 : Nat) ^ j < 2 ^ 32 := Nat.pow_lt_pow_right (by omega) hj
  rw [Nat.testBit_and, hm, Nat.testBit_two_pow_sub_succ hpl, Nat.testBit_two_pow_mul_add _ hlt, Nat.testBit_two_pow, Nat.testBit_mod_two_pow, Nat.testBit_div_two_pow]
  by_cases h1 : i < j + 1
  · rw [if_pos h1]
    by_cases h2 : i = j
    · subst h2; simp
    · have h3 : i < j := by omega
      have h4 : i < 32 := by omega
      have h5 : ¬ j = i := fun e => h2 e.symm
      simp [h3, h4, h5]
  · rw [if_neg h1, show i - (j + 1) + (j + 1) = i by omega]
    have h5 : ¬ j = i := by omega
    by_cases h6 : i < 32
    · simp [h5, h6]
    · have : v.testBit i = false := Nat.testBit_lt_two_pow (Nat.lt_of_lt_of_le hv (Nat.pow_le_pow_right (by omega) (by omega)))
      simp [this]
theorem or_set (v j : Nat) : v ||| 2 ^ j = 2 ^ (j + 1) * (v / 2 ^ (j + 1)) + (2 ^ j + v % 2 ^ j) := by
  have h1 : v % 2 ^ j < 2 ^ j := Nat.mod_lt _ (Nat.two_pow_pos j)
  have h2 : (2 : Nat) ^ (j + 1) = 2 * 2 ^ j := by rw [Nat.pow_succ]; omega
  have hlt : 2 ^ j + v % 2 ^ j < 2 ^ (j + 1) := by omega
  apply Nat.eq_of_testBit_eq
  intro i
  rw [Nat.testBit_or, Nat.testBit_two_pow_mul_add _ hlt, Nat.testBit_two_pow, Nat.testBit_div_two_pow]
  by_cases h3 : i < j + 1
  · rw [if_pos h3]
    have e := Nat.testBit_two_pow_mul_add 1 h1 i
    rw [Nat.mul_one] at e
    rw [e, Nat.testBit_mod_two_pow]
    by_cases h4 : i = j
    · subst h4; simp
    · have h5 : i < j := by omega
      have h6 : ¬ j = i := fun e => h4 e.symm
      simp [h5, h6]
  · rw [if_neg h3, show i - (j + 1) + (j + 1) = i by omega]
    have h6 : ¬ j = i := by omega
    simp [h6]

/-- The first and the last number of a net of m bits. -/
def firstN (n m : Nat) : Nat := 2 ^ (32 - m) * (n / 2 ^ (32 - m))
def lastN (n m : Nat) : Nat := 2 ^ (32 - m) * (n / 2 ^ (32 - m)) + (2 ^ (32 - m) - 1)
/-- On the way from bit m to bit k. -/
def clrN (n m k : Nat) : Nat := 2 ^ (32 - m) * (n / 2 ^ (32 - m)) + n % 2 ^ (32 - k)
def setN (n m k : Nat) : Nat := 2 ^ (32 - m) * (n / 2 ^ (32 - m)) + (2 ^ (32 - m) - 2 ^ (32 - k)) + n % 2 ^ (32 - k)
theorem clrN_start (n m : Nat) : clrN n m m = n := Nat.div_add_mod n _
theorem clrN_end (n m : Nat) : clrN n m 32 = firstN n m := by simp [clrN, firstN, Nat.mod_one]
theorem setN_start (n m : Nat) : setN n m m = n := by
  unfold setN; rw [Nat.sub_self, Nat.add_zero]; exact Nat.div_add_mod n _
theorem setN_end (n m : Nat) : setN n m 32 = lastN n m := by simp [setN, lastN, Nat.mod_one]
theorem pow_split {m k : Nat} (h : m ≤ k) (hk : k < 32) : (2 : Nat) ^ (32 - m) = 2 ^ (k - m) * (2 * 2 ^ (31 - k)) ∧ (2 : Nat) ^ (32 - k) = 2 * 2 ^ (31 - k) := by
  have e : (2 : Nat) ^ (32 - k) = 2 * 2 ^ (31 - k) := by rw [show 32 - k = (31 - k) + 1 by omega, Nat.pow_succ]; omega
  refine ⟨?_, e⟩
  rw [← e, ← Nat.pow_add]
  congr 1; omega
theorem clr_step (t h R y : Nat) (hy : y < 2 * R) (hR : 0 < R) : 2 * R * ((t * (2 * R) * h + y) / (2 * R)) + (t * (2 * R) * h + y) % R = t * (2 * R) * h + y % R := by
  have e1 : t * (2 * R) * h = 2 * R * (t * h) := by rw [Nat.mul_comm t, Nat.mul_assoc]
  rw [e1, Nat.mul_add_div (by omega), Nat.div_eq_of_lt hy, Nat.add_zero]
  have e2 : 2 * R * (t * h) = R * (2 * (t * h)) := by rw [Nat.mul_comm 2 R, Nat.mul_assoc]
  rw [e2, Nat.mul_add_mod]
theorem clrN_step (n m k : Nat) (h : m ≤ k) (hk : k < 32) (hn : n < 2 ^ 32) : clrN n m k &&& (4294967295 - 2 ^ (31 - k)) = clrN n m (k + 1) ∧ clrN n m k < 2 ^ 32 := by
  obtain ⟨e1, e2⟩ := pow_split h hk
  have hR := Nat.two_pow_pos (31 - k)
  have hle : clrN n m k ≤ n := by
    have : n % 2 ^ (32 - k) ≤ n % 2 ^ (32 - m) := by
      rw [← Nat.mod_mod_of_dvd n (Nat.pow_dvd_pow 2 (by omega : 32 - k ≤ 32 - m))]
      exact Nat.mod_le _ _
    have := Nat.div_add_mod n (2 ^ (32 - m))
    unfold clrN; omega
  refine ⟨?_, by omega⟩
  rw [and_clear _ _ (by omega) (by omega)]
  unfold clrN
  rw [show 31 - k + 1 = 32 - k by omega, show 32 - (k + 1) = 31 - k by omega, e1, e2]
  have hy : n % (2 * 2 ^ (31 - k)) < 2 * 2 ^ (31 - k) := Nat.mod_lt _ (by omega)
  have hs := clr_step (2 ^ (k - m)) (n / (2 ^ (k - m) * (2 * 2 ^ (31 - k)))) (2 ^ (31 - k)) _ hy hR
  rw [hs]
  rw [Nat.mul_comm 2 (2 ^ (31 - k)), Nat.mod_mul_right_mod]
theorem setN_step (n m k : Nat) (h : m ≤ k) (hk : k < 32) (hm : m ≤ 32) (hn : n < 2 ^ 32) : setN n m k ||| 2 ^ (31 - k) = setN n m (k + 1) ∧ setN n m k < 2 ^ 32 := by
  obtain ⟨e1, e2⟩ := pow_split h hk
  have hR := Nat.two_pow_pos (31 - k)
  have hP := Nat.two_pow_pos (k - m)
  have hd := Nat.div_add_mod n (2 ^ (32 - m))
  have hml := Nat.mod_lt n (Nat.two_pow_pos (32 - m))
  have hmk := Nat.mod_lt n (Nat.two_pow_pos (32 - k))
  have hle : (2 : Nat) ^ (32 - k) ≤ 2 ^ (32 - m) := Nat.pow_le_pow_right (by omega) (by omega)
  have htop : 2 ^ (32 - m) * (n / 2 ^ (32 - m)) + 2 ^ (32 - m) ≤ 2 ^ 32 := by
    have h1 : n / 2 ^ (32 - m) < 2 ^ m := by
      rw [Nat.div_lt_iff_lt_mul (Nat.two_pow_pos _), ← Nat.pow_add, show m + (32 - m) = 32 by omega]; exact hn
    have h2 : 2 ^ (32 - m) * (n / 2 ^ (32 - m) + 1) ≤ 2 ^ (32 - m) * 2 ^ m := Nat.mul_le_mul_left _ h1
    rw [← Nat.pow_add, show 32 - m + m = 32 by omega, Nat.mul_add, Nat.mul_one] at h2
    exact h2
  refine ⟨?_, by unfold setN; omega⟩
  rw [or_set]
  unfold setN
  rw [show 31 - k + 1 = 32 - k by omega, show 32 - (k + 1) = 31 - k by omega, e1, e2]
  have hy : n % (2 * 2 ^ (31 - k)) < 2 * 2 ^ (31 - k) := Nat.mod_lt _ (by omega)
  have hmm : n % (2 * 2 ^ (31 - k)) % 2 ^ (31 - k) = n % 2 ^ (31 - k) := by rw [Nat.mul_comm 2 (2 ^ (31 - k)), Nat.mod_mul_right_mod]
  generalize n % (2 * 2 ^ (31 - k)) = y at *
  generalize n / (2 ^ (k - m) * (2 * 2 ^ (31 - k))) = q at *
  generalize n % 2 ^ (31 - k) = z at *
  generalize (2 : Nat) ^ (31 - k) = R at *
  generalize (2 : Nat) ^ (k - m) = t at *
  obtain ⟨u, rfl⟩ : ∃ u, t = u + 1 := ⟨t - 1, by omega⟩
  have e3 : (u + 1) * (2 * R) * q + ((u + 1) * (2 * R) - 2 * R) + y = 2 * R * ((u + 1) * q + u) + y := by
    have : (u + 1) * (2 * R) = u * (2 * R) + 2 * R := by rw [Nat.add_mul, Nat.one_mul]
    rw [this, Nat.add_sub_cancel, Nat.mul_add, ← this, Nat.mul_comm (u + 1) (2 * R), Nat.mul_assoc, Nat.mul_comm u (2 * R)]
  rw [e3, Nat.mul_add_div (by omega), Nat.div_eq_of_lt hy, Nat.add_zero]
  have e4 : 2 * R * ((u + 1) * q + u) = R * (2 * ((u + 1) * q + u)) := by rw [Nat.mul_comm 2 R, Nat.mul_assoc]
  rw [e4, Nat.mul_add_mod, hmm, ← e4]
  have e5 : (u + 1) * (2 * R) * q + ((u + 1) * (2 * R) - R) = 2 * R * ((u + 1) * q + u) + R := by
    have : (u + 1) * (2 * R) = u * (2 * R) + 2 * R := by rw [Nat.add_mul, Nat.one_mul]
    have h6 : (u + 1) * (2 * R) - R = u * (2 * R) + R := by omega
    rw [h6, Nat.mul_add, Nat.mul_comm (u + 1) (2 * R), Nat.mul_assoc, Nat.mul_comm u (2 * R)]; omega
  rw [e5]
  omega
theorem net_top (n m : Nat) (hm : m ≤ 32) (hn : n < 2 ^ 32) : 2 ^ (32 - m) * (n / 2 ^ (32 - m)) + 2 ^ (32 - m) ≤ 2 ^ 32 := by
  have h1 : n / 2 ^ (32 - m) < 2 ^ m := by
    rw [Nat.div_lt_iff_lt_mul (Nat.two_pow_pos _), ← Nat.pow_add, show m + (32 - m) = 32 by omega]; exact hn
  have h2 : 2 ^ (32 - m) * (n / 2 ^ (32 - m) + 1) ≤ 2 ^ (32 - m) * 2 ^ m := Nat.mul_le_mul_left _ h1
  rw [← Nat.pow_add, show 32 - m + m = 32 by omega, Nat.mul_add, Nat.mul_one] at h2
  exact h2
theorem lastN_lt (n m : Nat) (hm : m ≤ 32) (hn : n < 4294967296) : lastN n m < 4294967296 := by
  have := net_top n m hm hn
  have := Nat.two_pow_pos (32 - m)
  unfold lastN; omega
theorem firstN_le (n m : Nat) : firstN n m ≤ n := Nat.mul_div_le n _
/-- A net has a number: its first bits are the net's. -/
theorem firstN_eq (n k m : Nat) : firstN n m = firstN k m ↔ n / 2 ^ (32 - m) = k / 2 ^ (32 - m) := by
  unfold firstN
  exact ⟨fun h => Nat.eq_of_mul_eq_mul_left (Nat.two_pow_pos _) h, fun h => by rw [h]⟩
theorem has_between (n k m : Nat) : firstN n m = firstN k m ↔ firstN n m ≤ k ∧ k ≤ lastN n m := by
  rw [firstN_eq]
  have hP := Nat.two_pow_pos (32 - m)
  have h1 := Nat.div_add_mod k (2 ^ (32 - m))
  have h2 := Nat.mod_lt k hP
  unfold firstN lastN
  generalize (2 : Nat) ^ (32 - m) = P at *
  constructor
  · intro h
    rw [h]
    omega
  · rintro ⟨ha, hb⟩
    have hc : n / P ≤ k / P := by
      rw [Nat.le_div_iff_mul_le hP, Nat.mul_comm]; exact ha
    have hd : k / P ≤ n / P := by
      have : k < (n / P + 1) * P := by rw [Nat.add_mul, Nat.one_mul, Nat.mul_comm]; omega
      have := Nat.div_lt_of_lt_mul (by rw [Nat.mul_comm]; exact this : k < P * (n / P + 1))
      omega
    omega
end Go.Proofs.Ythcjepafcemmnaa
