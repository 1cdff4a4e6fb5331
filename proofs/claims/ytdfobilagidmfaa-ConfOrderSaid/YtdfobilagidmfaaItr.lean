/- A range over a text as steps: the iterator is a block like others; runes as bytes of a list. Laws of no program. -/
import Derived.Test.YtdfobilagidmfaaScan
import Derived.Test.YtdfobilagidmfaaCf2
import Derived.Lib.OthersKept
namespace Go.Proofs.Ytdfobilagidmfaa
open Go.RowKit

theorem wp_range_n {P : Program} {o : Oper} {a : Act} {w : World} {K : Act → World → Prop} {Q : Exit → Act → World → Prop} (t : TypeId) (x : Operand) (ho : o.op = .range t x) (ht : P.underlying t = some .string) (l : List UInt8) (hx : a.eval x = .string ⟨l.toArray⟩)
    (h : ∀ g w', w.heap.size ≤ g → g < w'.heap.size → w'.heap[g]? = some (.stringIter ⟨l.toArray⟩ 0) → Below w.heap.size w w' → K (a.put o.dst (.pointer (some ⟨g, 0, none⟩))) w') : Oper.wp P o a w K Q := by
  have hr : (Instr.range t (a.eval x)).run P w = .ok (.pointer (some ⟨w.heap.size, 0, none⟩)) (w.iter ⟨l.toArray⟩ 0) := by
    rw [hx]; exact run_range_string w t _ ht
  unfold Oper.wp execOp
  simp only [ho, Sem.run_bind, hr, Result.andThen_ok]
  exact h _ _ (Nat.le_refl _) (size_new w _) (heap_alloc_new w _) (below_new w _)
theorem wpList_range_n {P : Program} {ops : Array Oper} {rest : List Oper} {o : Oper} {a : Act} {w : World} {Q : Exit → Act → World → Prop} (hgd : o.guard = none) (t : TypeId) (x : Operand) (ho : o.op = .range t x) (ht : P.underlying t = some .string) (l : List UInt8) (hx : a.eval x = .string ⟨l.toArray⟩)
    (h : ∀ g w', w.heap.size ≤ g → g < w'.heap.size → w'.heap[g]? = some (.stringIter ⟨l.toArray⟩ 0) → Below w.heap.size w w' → wpList P ops Q rest (a.put o.dst (.pointer (some ⟨g, 0, none⟩))) w') : wpList P ops Q (o :: rest) a w :=
  wpList_plain hgd fun _ hK => wp_range_n t x ho ht l hx fun g w' h1 h2 h3 h4 => hK _ _ (h g w' h1 h2 h3 h4)
theorem iterAt_grown {w : World} {k : Nat} {s : ByteArray} (pos : Nat) : w.grownBy (w.iterAt k s pos) (some k) :=
  ⟨rfl, rfl, rfl, by rw [Lib.iterAt_size]; exact Nat.le_refl _, fun j _ hne => Lib.iterAt_other w k j s pos (fun e => hne (by rw [e]))⟩
theorem wp_next_n {P : Program} {o : Oper} {a : Act} {w : World} {K : Act → World → Prop} {Q : Exit → Act → World → Prop} (x : Operand) (ho : o.op = .next x true) (g : Nat) (hx : a.eval x = .pointer (some ⟨g, 0, none⟩)) (l : List UInt8) (pos : Nat) (hk : w.heap[g]? = some (.stringIter ⟨l.toArray⟩ pos))
    (r k : Nat) (hd : Utf8.decode ⟨l.toArray⟩ pos = (r, k)) (hlt : pos < l.length) (p : Int) (hp : p = (pos : Int))
    (h : ∀ w', w'.heap[g]? = some (.stringIter ⟨l.toArray⟩ (pos + k)) → w.grownBy w' (some g) → K (a.put o.dst (.tuple #[.bool true, .int .i64 p, .int .i32 (r : Int)])) w') : Oper.wp P o a w K Q := by
  subst hp
  have hr : (Instr.next (a.eval x) true o.type).run P w = .ok (.tuple #[.bool true, .int .i64 (pos : Int), .int .i32 (r : Int)]) (w.iterAt g ⟨l.toArray⟩ (pos + k)) := by
    rw [hx, Lib.run_next_any_at w g _ pos _ hk (by rw [st_size]; exact hlt), hd]
  unfold Oper.wp execOp
  simp only [ho, Sem.run_bind, hr, Result.andThen_ok]
  exact h _ (Lib.iterAt_heap w g _ pos _ hk) (iterAt_grown _)
theorem wpList_next_n {P : Program} {ops : Array Oper} {rest : List Oper} {o : Oper} {a : Act} {w : World} {Q : Exit → Act → World → Prop} (hgd : o.guard = none) (x : Operand) (ho : o.op = .next x true) (g : Nat) (hx : a.eval x = .pointer (some ⟨g, 0, none⟩)) (l : List UInt8) (pos : Nat) (hk : w.heap[g]? = some (.stringIter ⟨l.toArray⟩ pos))
    (r k : Nat) (hd : Utf8.decode ⟨l.toArray⟩ pos = (r, k)) (hlt : pos < l.length) (p : Int) (hp : p = (pos : Int))
    (h : ∀ w', w'.heap[g]? = some (.stringIter ⟨l.toArray⟩ (pos + k)) → w.grownBy w' (some g) → wpList P ops Q rest (a.put o.dst (.tuple #[.bool true, .int .i64 p, .int .i32 (r : Int)])) w') : wpList P ops Q (o :: rest) a w :=
  wpList_plain hgd fun _ hK => wp_next_n x ho g hx l pos hk r k hd hlt p hp fun w' h1 h2 => hK _ _ (h w' h1 h2)
theorem next_end {P : Program} {w : World} {g pos : Nat} {l : List UInt8} (ty : TypeId) (hk : w.heap[g]? = some (.stringIter ⟨l.toArray⟩ pos)) (h : ¬ pos < l.length) :
    (Instr.next (.pointer (some ⟨g, 0, none⟩)) true ty).run P w = .ok (.tuple #[.bool false]) w := Lib.run_next_end_at w g _ pos ty hk (by rw [st_size]; exact h)

/-! ### Runes -/
theorem rune_st (l : List UInt8) (pos : Nat) (h : pos < l.length) : ∃ (r k : Nat) (c : UInt8), Utf8.decode ⟨l.toArray⟩ pos = (r, k) ∧ l[pos]? = some c ∧ r ≤ 1114111 ∧ 1 ≤ k ∧ pos + k ≤ l.length ∧
    ((k = 1 ∧ c.toNat < 128 ∧ r = c.toNat) ∨ (128 ≤ r ∧ 128 ≤ c.toNat ∧ ∀ x ∈ (l.drop pos).take k, 128 ≤ x.toNat)) := by
  have hs : pos < (⟨l.toArray⟩ : ByteArray).size := by rw [st_size]; exact h
  have hc : l[pos]? = some ((⟨l.toArray⟩ : ByteArray)[pos]'hs) := get?_at ⟨l.toArray⟩ pos hs
  by_cases ha : ((⟨l.toArray⟩ : ByteArray)[pos]'hs).toNat < 128
  · exact ⟨_, 1, _, decode_ascii _ pos hs ha, hc, by omega, Nat.le_refl _, by omega, .inl ⟨rfl, ha, rfl⟩⟩
  · obtain ⟨h1, h2, h3, h4, h5⟩ := rune_hi _ pos hs (by omega)
    rw [st_size] at h4
    obtain ⟨r, k, hd⟩ : ∃ r k, Utf8.decode ⟨l.toArray⟩ pos = (r, k) := ⟨_, _, rfl⟩
    rw [hd] at h1 h2 h3 h4 h5
    simp only at h1 h2 h3 h4 h5
    refine ⟨r, k, _, hd, hc, h2, h3, h4, .inr ⟨h1, by omega, fun x hx => ?_⟩⟩
    obtain ⟨j, hj, rfl⟩ := List.mem_iff_getElem.1 hx
    have hj' : j < k := by rw [List.length_take] at hj; omega
    have := h5 j hj'
    rw [List.getD_eq_getElem?_getD] at this
    rw [List.getElem_take, List.getElem_drop]
    rw [List.getElem?_eq_getElem (show pos + j < l.length from Nat.lt_of_lt_of_le (Nat.add_lt_add_left hj' pos) h4)] at this
    exact this
/-- A test of runes that only ASCII can pass, as a test of bytes. -/
theorem rune_is (p : UInt8 → Bool) (q : Nat → Bool) (hpq : ∀ c : UInt8, c.toNat < 128 → q c.toNat = p c) (hp : ∀ c : UInt8, 128 ≤ c.toNat → p c = false) (hq : ∀ r, 128 ≤ r → q r = false) (l : List UInt8) (pos : Nat) (h : pos < l.length) :
    ∃ r k : Nat, Utf8.decode ⟨l.toArray⟩ pos = (r, k) ∧ r ≤ 1114111 ∧ 1 ≤ k ∧ pos + k ≤ l.length ∧
      ((q r = true ∧ k = 1 ∧ ∃ c, l[pos]? = some c ∧ p c = true) ∨ (q r = false ∧ ∀ x ∈ (l.drop pos).take k, p x = false)) := by
  obtain ⟨r, k, c, hd, hc, hr, hk, hkl, hcase⟩ := rune_st l pos h
  refine ⟨r, k, hd, hr, hk, hkl, ?_⟩
  rcases hcase with ⟨rfl, h1, rfl⟩ | ⟨h1, h2, h3⟩
  · cases hpc : p c with
    | true => exact .inl ⟨by rw [hpq c h1, hpc], rfl, c, hc, hpc⟩
    | false =>
      refine .inr ⟨by rw [hpq c h1, hpc], fun x hx => ?_⟩
      rw [drop_at hc, List.take_succ_cons, List.take_zero] at hx
      rw [List.mem_singleton.1 hx]
      exact hpc
  · exact .inr ⟨hq r h1, fun x hx => hp x (h3 x hx)⟩
theorem u8_lt_ne {c : UInt8} {b : UInt8} (hb : b.toNat < 128) (hc : 128 ≤ c.toNat) : (c == b) = false := by
  rw [beq_eq_false_iff_ne]
  rintro rfl
  omega
theorem u8_beq (c b : UInt8) : (c.toNat == b.toNat) = (c == b) := by
  rw [Bool.eq_iff_iff, beq_iff_eq, beq_iff_eq]
  exact ⟨fun h => UInt8.toNat_inj.1 h, fun h => by rw [h]⟩
/-- Which byte is meant: a separator. -/
theorem rune_sep (b : UInt8) (hb : b.toNat < 128) (l : List UInt8) (pos : Nat) (h : pos < l.length) :
    ∃ r k : Nat, Utf8.decode ⟨l.toArray⟩ pos = (r, k) ∧ r ≤ 1114111 ∧ 1 ≤ k ∧ pos + k ≤ l.length ∧
      ((((r : Int) == (b.toNat : Int)) = true ∧ k = 1 ∧ l[pos]? = some b) ∨ (((r : Int) == (b.toNat : Int)) = false ∧ ∀ x ∈ (l.drop pos).take k, x ≠ b)) := by
  obtain ⟨r, k, hd, hr, hk, hkl, hcase⟩ := rune_is (fun c => c == b) (fun r => r == b.toNat) (fun c _ => u8_beq c b) (fun c hc => u8_lt_ne hb hc) (fun r h => beq_eq_false_iff_ne.2 (by omega)) l pos h
  refine ⟨r, k, hd, hr, hk, hkl, ?_⟩
  rcases hcase with ⟨h1, h2, c, hc, h3⟩ | ⟨h1, h2⟩
  · exact .inl ⟨beq_iff_eq.2 (by rw [beq_iff_eq.1 h1]), h2, by rw [hc, beq_iff_eq.1 h3]⟩
  · exact .inr ⟨beq_eq_false_iff_ne.2 (fun e => by rw [beq_eq_false_iff_ne] at h1; omega), fun x hx e => by have := h2 x hx; simp [e] at this⟩
/-- A blank, as a rune. -/
def blN (r : Nat) : Bool := r == 32 || r == 9
theorem u8_nat (c : UInt8) (n : Nat) (hn : n < 256) : ((c.toNat : Nat) == n) = (c == UInt8.ofNat n) := by
  rw [Bool.eq_iff_iff, beq_iff_eq, beq_iff_eq]
  constructor
  · intro h; apply UInt8.toNat_inj.1; rw [UInt8.toNat_ofNat']; omega
  · intro h; rw [h, UInt8.toNat_ofNat']; omega
theorem blN_u8 (c : UInt8) : blN c.toNat = isBl c := by
  unfold blN isBl
  rw [u8_nat c 32 (by decide), u8_nat c 9 (by decide)]
  rfl
theorem isBl_hi {c : UInt8} (h : 128 ≤ c.toNat) : isBl c = false := by
  rw [← blN_u8]; unfold blN; simp only [Bool.or_eq_false_iff, beq_eq_false_iff_ne]; omega
theorem int_beq (r : Nat) (n : Nat) : ((r : Int) == (n : Int)) = (r == n) := by
  rw [Bool.eq_iff_iff, beq_iff_eq, beq_iff_eq]; omega
theorem rune_bl (l : List UInt8) (pos : Nat) (h : pos < l.length) : ∃ (r k : Nat) (c : UInt8), Utf8.decode ⟨l.toArray⟩ pos = (r, k) ∧ l[pos]? = some c ∧ r ≤ 1114111 ∧ 1 ≤ k ∧ pos + k ≤ l.length ∧
    ((blN r = true ∧ k = 1 ∧ isBl c = true) ∨ (blN r = false ∧ isBl c = false ∧ ((r : Int) == 35) = (c == 35) ∧ ∀ x ∈ (l.drop pos).take k, isBl x = false)) := by
  obtain ⟨r, k, c, hd, hc, hr, hk, hkl, hcase⟩ := rune_st l pos h
  refine ⟨r, k, c, hd, hc, hr, hk, hkl, ?_⟩
  rcases hcase with ⟨rfl, h1, rfl⟩ | ⟨h1, h2, h3⟩
  · rw [blN_u8]
    cases hb : isBl c with
    | true => exact .inl ⟨rfl, rfl, rfl⟩
    | false =>
      refine .inr ⟨rfl, rfl, ?_, fun x hx => ?_⟩
      · rw [show ((c.toNat : Int) == 35) = ((c.toNat : Int) == ((35 : Nat) : Int)) from rfl, int_beq, u8_nat c 35 (by decide)]
        rfl
      · rw [drop_at hc, List.take_succ_cons, List.take_zero] at hx
        rw [List.mem_singleton.1 hx]
        exact hb
  · refine .inr ⟨?_, isBl_hi h2, ?_, fun x hx => isBl_hi (h3 x hx)⟩
    · unfold blN; simp only [Bool.or_eq_false_iff, beq_eq_false_iff_ne]; omega
    · rw [show ((r : Int) == 35) = false from beq_eq_false_iff_ne.2 (by omega), u8_lt_ne (by decide) h2]
theorem take_more {l : List UInt8} {pos k fr : Nat} (h : fr ≤ pos) (hk : pos + k ≤ l.length) : (l.take (pos + k)).drop fr = (l.take pos).drop fr ++ (l.drop pos).take k := by
  rw [List.take_add, List.drop_append_of_le_length (by rw [List.length_take]; omega)]
theorem free_get {l : List UInt8} {b : UInt8} {pos k : Nat} (hk : pos + k ≤ l.length) (h : ∀ x ∈ (l.drop pos).take k, x ≠ b) : ∀ j, j < k → l.getD (pos + j) 0 ≠ b := fun j hj => by
  rw [List.getD_eq_getElem?_getD, List.getElem?_eq_getElem (by omega)]
  refine h _ ?_
  rw [List.mem_iff_getElem]
  exact ⟨j, by rw [List.length_take, List.length_drop]; omega, by rw [List.getElem_take, List.getElem_drop]; rfl⟩
end Go.Proofs.Ytdfobilagidmfaa
