/- Plain arithmetic of ones' complement sums over lists of bytes: of no program. -/
namespace Go.Proofs.Ytfmllopeeiecjaa

/-- The ones' complement reading of a plain sum: what is left of it by 65535, where only 0 is 0. -/
def nrm (n : Nat) : Nat := if n = 0 then 0 else (n - 1) % 65535 + 1
theorem nrm_le (n : Nat) : nrm n ≤ 65535 := by unfold nrm; split <;> omega
theorem nrm_zero : nrm 0 = 0 := rfl
theorem nrm_small {n : Nat} (h : n ≤ 65535) : nrm n = n := by unfold nrm; split <;> omega
theorem nrm_eq {n m : Nat} (h : n % 65535 = m % 65535) (hz : n = 0 ↔ m = 0) : nrm n = nrm m := by
  unfold nrm
  by_cases h0 : n = 0
  · rw [if_pos h0, if_pos (hz.1 h0)]
  · rw [if_neg h0, if_neg (fun e => h0 (hz.2 e))]
    have : m ≠ 0 := fun e => h0 (hz.2 e)
    omega
theorem nrm_mod (n : Nat) : nrm n % 65535 = n % 65535 := by unfold nrm; split <;> omega
theorem nrm_pos {n : Nat} (h : 0 < n) : 0 < nrm n := by unfold nrm; split <;> omega
theorem nrm_add (a b : Nat) : nrm (nrm a + b) = nrm (a + b) := by
  have h := nrm_mod a
  refine nrm_eq (by omega) ?_
  rcases Nat.eq_zero_or_pos a with h0 | h0
  · subst h0; rw [nrm_zero]
  · have := nrm_pos h0; omega

/-- The sum that the document's Add gives. -/
def addI (a b : Int) : Int := (a % 65536 + b % 65536) % 65536 + (a % 65536 + b % 65536) / 65536
theorem addI_nat (x y : Nat) (hx : x ≤ 65535) (hy : y ≤ 65535) : addI x y = nrm (x + y) := by
  unfold addI nrm; split <;> omega
theorem addI_nrm (x y : Nat) (hy : y ≤ 65535) : addI (nrm x) y = nrm (x + y) := by
  rw [addI_nat _ _ (nrm_le x) hy, nrm_add]
theorem addI_comm (a b : Int) : addI a b = addI b a := by unfold addI; omega
theorem addI_bounds (a b : Int) : 0 ≤ addI a b ∧ addI a b ≤ 65535 := by unfold addI; omega
theorem addI_zero (a : Int) : addI a 0 = a % 65536 := by unfold addI; omega
theorem addI_low (a : Int) : ∃ x : Nat, x ≤ 65535 ∧ ∀ b, addI a b = addI x b ∧ addI b a = addI b x := by
  refine ⟨(a % 65536).toNat, by omega, fun b => ?_⟩
  have e : ((a % 65536).toNat : Int) = a % 65536 := by omega
  have e2 : a % 65536 % 65536 = a % 65536 := by omega
  unfold addI
  rw [e, e2]
  exact ⟨rfl, rfl⟩
theorem addI_assoc (a b c : Int) : addI (addI a b) c = addI a (addI b c) := by
  obtain ⟨x, hx, ex⟩ := addI_low a
  obtain ⟨y, hy, ey⟩ := addI_low b
  obtain ⟨z, hz, ez⟩ := addI_low c
  rw [(ex b).1, (ey c).1, (ey x).2, (ez _).2, (ex _).1, (ez _).2, addI_nat _ _ hx hy, addI_nrm _ _ hz, addI_comm x, addI_nat _ _ hy hz, addI_nrm _ _ hx]
  rw [show x + y + z = y + z + x by omega]

/-- The weighted sum of bytes: the first one (if so told) of a pair is the greater. -/
def ws : Bool → List UInt8 → Nat
  | _, [] => 0
  | true, a :: t => a.toNat * 256 + ws false t
  | false, a :: t => a.toNat + ws true t
def par (h : Bool) (n : Nat) : Bool := if n % 2 = 0 then h else !h
theorem par_succ (h : Bool) (n : Nat) : par h (n + 1) = !par h n := by
  unfold par
  rcases Nat.mod_two_eq_zero_or_one n with e | e
  · rw [if_neg (by omega), if_pos e]
  · rw [if_pos (by omega), if_neg (by omega)]; simp
theorem par_not (h : Bool) (n : Nat) : par (!h) n = !par h n := by
  unfold par; split <;> rfl
theorem ws_append (l t : List UInt8) : ∀ h, ws h (l ++ t) = ws h l + ws (par h l.length) t := by
  induction l with
  | nil => intro h; cases h <;> simp [ws, par]
  | cons a l ih =>
    intro h
    cases h
    · rw [List.cons_append, ws, ih, ws, List.length_cons, par_succ, ← par_not]; simp; omega
    · rw [List.cons_append, ws, ih, ws, List.length_cons, par_succ, ← par_not]; simp; omega
theorem ws_one (h : Bool) (b : UInt8) : ws h [b] = if h then b.toNat * 256 else b.toNat := by cases h <;> simp [ws]
theorem ws_pair (a b : UInt8) (t : List UInt8) : ws true (a :: b :: t) = a.toNat * 256 + b.toNat + ws true t := by simp [ws]; omega
theorem ws_even (l t : List UInt8) (h : l.length % 2 = 0) : ws true (l ++ t) = ws true l + ws true t := by
  rw [ws_append, par, if_pos h]
theorem ws_noughts (n : Nat) : ∀ h, ws h (List.replicate n 0) = 0 := by
  induction n with
  | zero => intro h; cases h <;> rfl
  | succ n ih => intro h; cases h <;> simp [List.replicate_succ, ws, ih]

/-- The checksum. -/
def ck (l : List UInt8) : Int := 65535 - (nrm (ws true l) : Int)
theorem ck_bounds (l : List UInt8) : 0 ≤ ck l ∧ ck l ≤ 65535 := by
  have := nrm_le (ws true l); unfold ck; omega
theorem ck_of_ws {l t : List UInt8} (h : ws true l = ws true t) : ck l = ck t := by unfold ck; rw [h]

/-- The sum behind a turn: from b on, each old pair out, each new one in. -/
def ts : Nat → List UInt8 → List UInt8 → Nat
  | s, a :: b :: o, c :: d :: n => ts (s + (65535 - (a.toNat * 256 + b.toNat)) + (c.toNat * 256 + d.toNat)) o n
  | s, _, _ => s
theorem ts_eq : ∀ (k : Nat) (s : Nat) (o n : List UInt8), o.length = 2 * k → n.length = 2 * k → ts s o n + ws true o = s + 65535 * k + ws true n := by
  intro k
  induction k with
  | zero =>
    intro s o n ho hn
    obtain rfl := List.eq_nil_of_length_eq_zero ho
    obtain rfl := List.eq_nil_of_length_eq_zero hn
    simp [ts, ws]
  | succ k ih =>
    intro s o n ho hn
    match o, n, ho, hn with
    | a :: b :: o, c :: d :: n, ho, hn =>
      have h := ih (s + (65535 - (a.toNat * 256 + b.toNat)) + (c.toNat * 256 + d.toNat)) o n (by simp at ho; omega) (by simp at hn; omega)
      rw [ts, ws_pair, ws_pair]
      have := a.toNat_lt; have := b.toNat_lt
      omega
theorem ws_le : ∀ (k : Nat) (o : List UInt8), o.length = 2 * k → ws true o ≤ 65535 * k := by
  intro k
  induction k with
  | zero => intro o ho; obtain rfl := List.eq_nil_of_length_eq_zero ho; simp [ws]
  | succ k ih =>
    intro o ho
    match o, ho with
    | a :: b :: o, ho =>
      have h := ih o (by simp at ho; omega)
      rw [ws_pair]
      have := a.toNat_lt; have := b.toNat_lt
      omega
def tk (s : Int) (o n : List UInt8) : Int := if o.length ≠ n.length ∨ o.length % 2 = 1 then s else 65535 - (nrm (ts (65535 - (s % 65536).toNat) o n) : Int)

theorem turns (p o n q : List UInt8) (hp : p.length % 2 = 0) (hn : n.length % 2 = 0) (ho : o.length = n.length) :
    tk (ck (p ++ o ++ q)) o n = ck (p ++ n ++ q) ∨ tk (ck (p ++ o ++ q)) o n + ck (p ++ n ++ q) = 65535 ∧ (tk (ck (p ++ o ++ q)) o n = 0 ∨ ck (p ++ n ++ q) = 0) := by
  have h1 : ws true (p ++ o ++ q) = ws true p + ws true o + ws true q := by
    rw [ws_even _ _ (by simp; omega), ws_even _ _ hp]
  have h2 : ws true (p ++ n ++ q) = ws true p + ws true n + ws true q := by
    rw [ws_even _ _ (by simp; omega), ws_even _ _ hp]
  have hb := ck_bounds (p ++ o ++ q)
  have e1 : (65535 - (ck (p ++ o ++ q) % 65536).toNat) = nrm (ws true (p ++ o ++ q)) := by
    have := nrm_le (ws true (p ++ o ++ q)); unfold ck at *; omega
  unfold tk
  rw [if_neg (by omega), e1]
  obtain ⟨k, hk⟩ : ∃ k, n.length = 2 * k := ⟨n.length / 2, by omega⟩
  have h3 := ts_eq k (nrm (ws true (p ++ o ++ q))) o n (by omega) hk
  have h4 := nrm_mod (ws true (p ++ o ++ q))
  have h5 : nrm (ws true (p ++ o ++ q)) = 0 → ws true (p ++ o ++ q) = 0 := fun e => by
    rcases Nat.eq_zero_or_pos (ws true (p ++ o ++ q)) with h | h
    · exact h
    · have := nrm_pos h; omega
  have h6 : ws true (p ++ o ++ q) = 0 → nrm (ws true (p ++ o ++ q)) = 0 := fun e => by rw [e]; rfl
  unfold ck
  rw [h1] at h3 h4 h5 h6 ⊢
  rw [h2]
  generalize nrm (ws true p + ws true o + ws true q) = u at *
  generalize ts u o n = x at *
  have hm : x % 65535 = (ws true p + ws true n + ws true q) % 65535 := by omega
  have hxz : x = 0 → ws true p + ws true n + ws true q = 0 := by
    intro hx
    have h8 := ws_le k o (by omega)
    have h9 : u = 0 := by omega
    have := h5 h9
    omega
  by_cases hz : ws true p + ws true n + ws true q = 0
  · rw [hz] at hm ⊢
    rw [nrm_zero]
    by_cases hx : x = 0
    · left; rw [hx, nrm_zero]
    · right
      have : nrm x = 65535 := by unfold nrm; rw [if_neg hx]; omega
      omega
  · left
    rw [nrm_eq (n := x) (m := ws true p + ws true n + ws true q) hm ⟨hxz, fun h => absurd h hz⟩]

/-- Bytes with a pair at an even place. -/
theorem ws_at (p q : List UInt8) (a b : UInt8) (hp : p.length % 2 = 0) : ws true (p ++ a :: b :: q) = ws true p + (a.toNat * 256 + b.toNat) + ws true q := by
  rw [ws_even _ _ hp, ws_pair]; omega

theorem ws_set : ∀ (l : List UInt8) (j : Nat) (x b : UInt8) (h : Bool), l[j]? = some x → ws h (l.set j b) + (if par h j then 256 else 1) * x.toNat = ws h l + (if par h j then 256 else 1) * b.toNat := by
  intro l
  induction l with
  | nil => intro j x b h hj; simp at hj
  | cons a l ih =>
    intro j x b h hj
    cases j with
    | zero =>
      obtain rfl : a = x := by simpa using hj
      cases h <;> simp [par, ws] <;> omega
    | succ j =>
      have hj' : l[j]? = some x := by simpa using hj
      have e := ih j x b (!h) hj'
      have ep : par h (j + 1) = par (!h) j := by rw [par_succ, par_not]
      rw [ep, List.set_cons_succ]
      cases h
      · rw [ws, ws]; simp only [Bool.not_false] at e ⊢; omega
      · rw [ws, ws]; simp only [Bool.not_true] at e ⊢; omega
theorem ck_zero (l : List UInt8) : ck l = 0 ↔ 0 < ws true l ∧ ws true l % 65535 = 0 := by
  unfold ck nrm
  split <;> omega
theorem par_even {j : Nat} (h : j % 2 = 0) : par true j = true := if_pos h
theorem par_odd {j : Nat} (h : j % 2 = 1) : par true j = false := if_neg (by omega)

/-- Bytes with noughts at an even place, and their sum put there: they fit. -/
theorem seal_fits (l : List UInt8) (k s : Nat) (a b : UInt8) (hk : k % 2 = 0) (h0 : l[k]? = some 0) (h1 : l[k + 1]? = some 0) (hs : ck l = s) (ha : a.toNat = s / 256) (hb : b.toNat = s % 256) :
    ck ((l.set k a).set (k + 1) b) = 0 := by
  have e1 := ws_set l k 0 a true h0
  have e2 := ws_set (l.set k a) (k + 1) 0 b true (by rw [List.getElem?_set_ne (by omega)]; exact h1)
  rw [par_even hk] at e1
  rw [par_odd (by omega)] at e2
  have hz : (0 : UInt8).toNat = 0 := rfl
  rw [hz] at e1 e2
  simp only [if_true, Bool.false_eq_true, if_false] at e1 e2
  rw [ck_zero]
  have hn := nrm_mod (ws true l)
  have hl := nrm_le (ws true l)
  have hp : ws true l = 0 → nrm (ws true l) = 0 := fun e => by rw [e]; rfl
  unfold ck at hs
  omega
/-- With one bit turned they don't. -/
theorem bit_turned : ∀ (x : Fin 256) (r : Fin 8), (x.val ^^^ 2 ^ r.val = x.val + 2 ^ r.val) ∨ (x.val = (x.val ^^^ 2 ^ r.val) + 2 ^ r.val) := by decide +kernel
theorem seal_spoilt (l : List UInt8) (j r : Nat) (x b : UInt8) (h : l[j]? = some x) (hr : r < 8) (hb : b.toNat = x.toNat ^^^ 2 ^ r) (hz : ck l = 0) : ck (l.set j b) ≠ 0 := by
  have e := ws_set l j x b true h
  have ht := bit_turned ⟨x.toNat, x.toNat_lt⟩ ⟨r, hr⟩
  simp only at ht
  rw [← hb] at ht
  rw [ck_zero] at hz
  intro hc
  rw [ck_zero] at hc
  have h2 : (2 : Nat) ^ r = 1 ∨ (2 : Nat) ^ r = 2 ∨ (2 : Nat) ^ r = 4 ∨ (2 : Nat) ^ r = 8 ∨ (2 : Nat) ^ r = 16 ∨ (2 : Nat) ^ r = 32 ∨ (2 : Nat) ^ r = 64 ∨ (2 : Nat) ^ r = 128 := by
    match r, hr with
    | 0, _ => simp
    | 1, _ => simp
    | 2, _ => simp
    | 3, _ => simp
    | 4, _ => simp
    | 5, _ => simp
    | 6, _ => simp
    | 7, _ => simp
  generalize (2 : Nat) ^ r = q at *
  have hx := x.toNat_lt
  have hbl := b.toNat_lt
  cases hp : par true j <;> rw [hp] at e <;> simp only [if_true, Bool.false_eq_true, if_false] at e <;> omega

/-- Two pairs change places. -/
theorem swap_ws (l : List UInt8) (i k : Nat) (a b c d : UInt8) (ha : l[2 * i]? = some a) (hb : l[2 * i + 1]? = some b) (hc : l[2 * k]? = some c) (hd : l[2 * k + 1]? = some d) :
    ws true ((((l.set (2 * i) c).set (2 * i + 1) d).set (2 * k) a).set (2 * k + 1) b) = ws true l := by
  by_cases h : i = k
  · subst h
    rw [ha] at hc; rw [hb] at hd
    obtain rfl : a = c := by simpa using hc
    obtain rfl : b = d := by simpa using hd
    have g1 : l.set (2 * i) a = l := by
      apply List.ext_getElem? ; intro j; rw [List.getElem?_set]; split
      · rename_i e; subst e; rw [if_pos (List.getElem?_eq_some_iff.1 ha).1]; exact ha.symm
      · rfl
    have g2 : l.set (2 * i + 1) b = l := by
      apply List.ext_getElem? ; intro j; rw [List.getElem?_set]; split
      · rename_i e; subst e; rw [if_pos (List.getElem?_eq_some_iff.1 hb).1]; exact hb.symm
      · rfl
    rw [g1, g2, g1, g2]
  · have e1 := ws_set l (2 * i) a c true ha
    have e2 := ws_set (l.set (2 * i) c) (2 * i + 1) b d true (by rw [List.getElem?_set_ne (by omega)]; exact hb)
    have e3 := ws_set ((l.set (2 * i) c).set (2 * i + 1) d) (2 * k) c a true (by rw [List.getElem?_set_ne (by omega), List.getElem?_set_ne (by omega)]; exact hc)
    have e4 := ws_set (((l.set (2 * i) c).set (2 * i + 1) d).set (2 * k) a) (2 * k + 1) d b true (by rw [List.getElem?_set_ne (by omega), List.getElem?_set_ne (by omega), List.getElem?_set_ne (by omega)]; exact hd)
    rw [par_even (by omega)] at e1 e3
    rw [par_odd (by omega)] at e2 e4
    simp only [if_true, Bool.false_eq_true, if_false] at e1 e2 e3 e4
    omega
end Go.Proofs.Ytfmllopeeiecjaa
