/- Texts put together: Itr, Adr1, Cg1, Adr2, Adr3, Ref3p. -/
import Derived.Test.YtdfobilagidmfaaDoorQ1
import Derived.Lib.OthersKept
import Derived.Test.YtdfobilagidmfaaDoorRows
import Derived.WalkSpells
import Derived.WalkLawsBesides
import Derived.Lib.Hide
import Derived.Deep.LoopGhost
import Derived.Deep.RegionHeld
namespace Go.Proofs.YtdfobilagidmfaaDoor
open Go.RowKit

theorem wp_range_n {P : Program} {o : Oper} {a : Act} {w : World} {K : Act → World → Prop} {Q : Exit → Act → World → Prop} (t : TypeId) (x : Operand) (ho : o.op = .range t x) (ht : P.underlying t = some .string) (l : List UInt8) (hx : a.eval x = .string ⟨l.toArray⟩)
    (h : ∀ g w', w.heap.size ≤ g → g < w'.heap.size → w'.heap[g]? = some (.stringIter ⟨l.toArray⟩ 0) → Below w.heap.size w w' → K (a.put o.dst (.pointer (some ⟨g, 0, none⟩))) w') : Oper.wp P o a w K Q := by
  have hr : (Instr.range t (a.eval x)).run P w = .ok (.pointer (some ⟨w.heap.size, 0, none⟩)) (w.iter ⟨l.toArray⟩ 0) := by
    rw [hx]; exact run_range_string w t _ ht
  unfold Oper.wp execOp
  simp only [ho, Sem.run_bind, hr, Result.andThen_ok]
  exact h _ _ (Nat.le_refl _) (size_new w _) (heap_alloc_new w _) (below_new w _)
theorem wpList_range_n {P : Program} {ops : Array Oper} {rest : List Oper} {o : Oper} {a : Act} {w : World} {Q : Exit → Act → World → Prop} (hgd : o.guard = none) (t : TypeId) (x : Operand) (ho : o.op = .range t x) (ht : P.underlying t = some .string) (l : List UInt8) (hx : a.eval x = .string ⟨l.toArray⟩)
    (h : ∀ g w', w.heap.size ≤ g → g < w'.heap.size → w'.heap[g]? = some (.stringIter ⟨l.toArray⟩ 0) → Below w.heap.size w w' → wpList P ops Q rest (a.put o.dst (.pointer (some ⟨g, 0, none⟩))) w') : wpList P ops Q (o :: rest) a w :=
  wpList_plain hgd fun _ hK => wp_range_n t x ho ht l hx fun g w' h1 h2 h3 h4 => hK _ _ (h g w' h1 h2 h3 h4)
theorem iterAt_grown {w : World} {k : Nat} {s : ByteArray} (pos : Nat) : w.grownBy (w.iterAt k s pos) (some k) :=
  ⟨rfl, rfl, rfl, by rw [Lib.iterAt_size]; exact Nat.le_refl _, fun j _ hne => Lib.iterAt_other w k j s pos (fun e => hne (by rw [e]))⟩
theorem wp_next_n {P : Program} {o : Oper} {a : Act} {w : World} {K : Act → World → Prop} {Q : Exit → Act → World → Prop} (x : Operand) (ho : o.op = .next x true) (g : Nat) (hx : a.eval x = .pointer (some ⟨g, 0, none⟩)) (l : List UInt8) (pos : Nat) (hk : w.heap[g]? = some (.stringIter ⟨l.toArray⟩ pos))
    (r k : Nat) (hd : Utf8.decode ⟨l.toArray⟩ pos = (r, k)) (hlt : pos < l.length) (p : Int) (hp : p = (pos : Int))
    (h : ∀ w', w'.heap[g]? = some (.stringIter ⟨l.toArray⟩ (pos + k)) → w.grownBy w' (some g) → K (a.put o.dst (.tuple #[.bool true, .int .i64 p, .int .i32 (r : Int)])) w') : Oper.wp P o a w K Q := by
  subst hp
  have hr : (Instr.next (a.eval x) true o.type).run P w = .ok (.tuple #[.bool true, .int .i64 (pos : Int), .int .i32 (r : Int)]) (w.iterAt g ⟨l.toArray⟩ (pos + k)) := by
    rw [hx, Lib.run_next_any_at w g _ pos _ hk (by rw [st_size]; exact hlt), hd]
  unfold Oper.wp execOp
  simp only [ho, Sem.run_bind, hr, Result.andThen_ok]
  exact h _ (Lib.iterAt_heap w g _ pos _ hk) (iterAt_grown _)
theorem wpList_next_n {P : Program} {ops : Array Oper} {rest : List Oper} {o : Oper} {a : Act} {w : World} {Q : Exit → Act → World → Prop} (hgd : o.guard = none) (x : Operand) (ho : o.op = .next x true) (g : Nat) (hx : a.eval x = .pointer (some ⟨g, 0, none⟩)) (l : List UInt8) (pos : Nat) (hk : w.heap[g]? = some (.stringIter ⟨l.toArray⟩ pos))
    (r k : Nat) (hd : Utf8.decode ⟨l.toArray⟩ pos = (r, k)) (hlt : pos < l.length) (p : Int) (hp : p = (pos : Int))
    (h : ∀ w', w'.heap[g]? = some (.stringIter ⟨l.toArray⟩ (pos + k)) → w.grownBy w' (some g) → wpList P ops Q rest (a.put o.dst (.tuple #[.bool true, .int .i64 p, .int .i32 (r : Int)])) w') : wpList P ops Q (o :: rest) a w :=
  wpList_plain hgd fun _ hK => wp_next_n x ho g hx l pos hk r k hd hlt p hp fun w' h1 h2 => hK _ _ (h w' h1 h2)
theorem next_end {P : Program} {w : World} {g pos : Nat} {l : List UInt8} (ty : TypeId) (hk : w.heap[g]? = some (.stringIter ⟨l.toArray⟩ pos)) (h : ¬ pos < l.length) :
    (Instr.next (.pointer (some ⟨g, 0, none⟩)) true ty).run P w = .ok (.tuple #[.bool false]) w := Lib.run_next_end_at w g _ pos ty hk (by rw [st_size]; exact h)

/-! ### Runes -/
theorem rune_st (l : List UInt8) (pos : Nat) (h : pos < l.length) : ∃ (r k : Nat) (c : UInt8), Utf8.decode ⟨l.toArray⟩ pos = (r, k) ∧ l[pos]? = some c ∧ r ≤ 1114111 ∧ 1 ≤ k ∧ pos + k ≤ l.length ∧
    ((k = 1 ∧ c.toNat < 128 ∧ r = c.toNat) ∨ (128 ≤ r ∧ 128 ≤ c.toNat ∧ ∀ x ∈ (l.drop pos).take k, 128 ≤ x.toNat)) := by
  have hs : pos < (⟨l.toArray⟩ : ByteArray).size := by rw [st_size]; exact h
  have hc : l[pos]? = some ((⟨l.toArray⟩ : ByteArray)[pos]'hs) := get?_at ⟨l.toArray⟩ pos hs
  by_cases ha : ((⟨l.toArray⟩ : ByteArray)[pos]'hs).toNat < 128
  · exact ⟨_, 1, _, decode_ascii _ pos hs ha, hc, by omega, Nat.le_refl _, by omega, .inl ⟨rfl, ha, rfl⟩⟩
  · obtain ⟨h1, h2, h3, h4, h5⟩ := rune_hi _ pos hs (by omega)
    rw [st_size] at h4
    obtain ⟨r, k, hd⟩ : ∃ r k, Utf8.decode ⟨l.toArray⟩ pos = (r, k) := ⟨_, _, rfl⟩
    rw [hd] at h1 h2 h3 h4 h5
    simp only at h1 h2 h3 h4 h5
    refine ⟨r, k, _, hd, hc, h2, h3, h4, .inr ⟨h1, by omega, fun x hx => ?_⟩⟩
    obtain ⟨j, hj, rfl⟩ := List.mem_iff_getElem.1 hx
    have hj' : j < k := by rw [List.length_take] at hj; omega
    have := h5 j hj'
    rw [List.getD_eq_getElem?_getD] at this
    rw [List.getElem_take, List.getElem_drop]
    rw [List.getElem?_eq_getElem (show pos + j < l.length from Nat.lt_of_lt_of_le (Nat.add_lt_add_left hj' pos) h4)] at this
    exact this
/-- A test of runes that only ASCII can pass, as a test of bytes. -/
theorem rune_is (p : UInt8 → Bool) (q : Nat → Bool) (hpq : ∀ c : UInt8, c.toNat < 128 → q c.toNat = p c) (hp : ∀ c : UInt8, 128 ≤ c.toNat → p c = false) (hq : ∀ r, 128 ≤ r → q r = false) (l : List UInt8) (pos : Nat) (h : pos < l.length) :
    ∃ r k : Nat, Utf8.decode ⟨l.toArray⟩ pos = (r, k) ∧ r ≤ 1114111 ∧ 1 ≤ k ∧ pos + k ≤ l.length ∧
      ((q r = true ∧ k = 1 ∧ ∃ c, l[pos]? = some c ∧ p c = true) ∨ (q r = false ∧ ∀ x ∈ (l.drop pos).take k, p x = false)) := by
  obtain ⟨r, k, c, hd, hc, hr, hk, hkl, hcase⟩ := rune_st l pos h
  refine ⟨r, k, hd, hr, hk, hkl, ?_⟩
  rcases hcase with ⟨rfl, h1, rfl⟩ | ⟨h1, h2, h3⟩
  · cases hpc : p c with
    | true => exact .inl ⟨by rw [hpq c h1, hpc], rfl, c, hc, hpc⟩
    | false =>
      refine .inr ⟨by rw [hpq c h1, hpc], fun x hx => ?_⟩
      rw [drop_at hc, List.take_succ_cons, List.take_zero] at hx
      rw [List.mem_singleton.1 hx]
      exact hpc
  · exact .inr ⟨hq r h1, fun x hx => hp x (h3 x hx)⟩
theorem u8_lt_ne {c : UInt8} {b : UInt8} (hb : b.toNat < 128) (hc : 128 ≤ c.toNat) : (c == b) = false := by
  rw [beq_eq_false_iff_ne]
  rintro rfl
  omega
theorem u8_beq (c b : UInt8) : (c.toNat == b.toNat) = (c == b) := by
  rw [Bool.eq_iff_iff, beq_iff_eq, beq_iff_eq]
  exact ⟨fun h => UInt8.toNat_inj.1 h, fun h => by rw [h]⟩
/-- Which byte is meant: a separator. -/
theorem rune_sep (b : UInt8) (hb : b.toNat < 128) (l : List UInt8) (pos : Nat) (h : pos < l.length) :
    ∃ r k : Nat, Utf8.decode ⟨l.toArray⟩ pos = (r, k) ∧ r ≤ 1114111 ∧ 1 ≤ k ∧ pos + k ≤ l.length ∧
      ((((r : Int) == (b.toNat : Int)) = true ∧ k = 1 ∧ l[pos]? = some b) ∨ (((r : Int) == (b.toNat : Int)) = false ∧ ∀ x ∈ (l.drop pos).take k, x ≠ b)) := by
  obtain ⟨r, k, hd, hr, hk, hkl, hcase⟩ := rune_is (fun c => c == b) (fun r => r == b.toNat) (fun c _ => u8_beq c b) (fun c hc => u8_lt_ne hb hc) (fun r h => beq_eq_false_iff_ne.2 (by omega)) l pos h
  refine ⟨r, k, hd, hr, hk, hkl, ?_⟩
  rcases hcase with ⟨h1, h2, c, hc, h3⟩ | ⟨h1, h2⟩
  · exact .inl ⟨beq_iff_eq.2 (by rw [beq_iff_eq.1 h1]), h2, by rw [hc, beq_iff_eq.1 h3]⟩
  · exact .inr ⟨beq_eq_false_iff_ne.2 (fun e => by rw [beq_eq_false_iff_ne] at h1; omega), fun x hx e => by have := h2 x hx; simp [e] at this⟩
/-- A blank, as a rune. -/
def blN (r : Nat) : Bool := r == 32 || r == 9
theorem u8_nat (c : UInt8) (n : Nat) (hn : n < 256) : ((c.toNat : Nat) == n) = (c == UInt8.ofNat n) := by
  rw [Bool.eq_iff_iff, beq_iff_eq, beq_iff_eq]
  constructor
  · intro h; apply UInt8.toNat_inj.1; rw [UInt8.toNat_ofNat']; omega
  · intro h; rw [h, UInt8.toNat_ofNat']; omega
theorem blN_u8 (c : UInt8) : blN c.toNat = isBl c := by
  unfold blN isBl
  rw [u8_nat c 32 (by decide), u8_nat c 9 (by decide)]
  rfl
theorem isBl_hi {c : UInt8} (h : 128 ≤ c.toNat) : isBl c = false := by
  rw [← blN_u8]; unfold blN; simp only [Bool.or_eq_false_iff, beq_eq_false_iff_ne]; omega
theorem int_beq (r : Nat) (n : Nat) : ((r : Int) == (n : Int)) = (r == n) := by
  rw [Bool.eq_iff_iff, beq_iff_eq, beq_iff_eq]; omega
theorem rune_bl (l : List UInt8) (pos : Nat) (h : pos < l.length) : ∃ (r k : Nat) (c : UInt8), Utf8.decode ⟨l.toArray⟩ pos = (r, k) ∧ l[pos]? = some c ∧ r ≤ 1114111 ∧ 1 ≤ k ∧ pos + k ≤ l.length ∧
    ((blN r = true ∧ k = 1 ∧ isBl c = true) ∨ (blN r = false ∧ isBl c = false ∧ ((r : Int) == 35) = (c == 35) ∧ ∀ x ∈ (l.drop pos).take k, isBl x = false)) := by
  obtain ⟨r, k, c, hd, hc, hr, hk, hkl, hcase⟩ := rune_st l pos h
  refine ⟨r, k, c, hd, hc, hr, hk, hkl, ?_⟩
  rcases hcase with ⟨rfl, h1, rfl⟩ | ⟨h1, h2, h3⟩
  · rw [blN_u8]
    cases hb : isBl c with
    | true => exact .inl ⟨rfl, rfl, rfl⟩
    | false =>
      refine .inr ⟨rfl, rfl, ?_, fun x hx => ?_⟩
      · rw [show ((c.toNat : Int) == 35) = ((c.toNat : Int) == ((35 : Nat) : Int)) from rfl, int_beq, u8_nat c 35 (by decide)]
        rfl
      · rw [drop_at hc, List.take_succ_cons, List.take_zero] at hx
        rw [List.mem_singleton.1 hx]
        exact hb
  · refine .inr ⟨?_, isBl_hi h2, ?_, fun x hx => isBl_hi (h3 x hx)⟩
    · unfold blN; simp only [Bool.or_eq_false_iff, beq_eq_false_iff_ne]; omega
    · rw [show ((r : Int) == 35) = false from beq_eq_false_iff_ne.2 (by omega), u8_lt_ne (by decide) h2]
theorem take_more {l : List UInt8} {pos k fr : Nat} (h : fr ≤ pos) (hk : pos + k ≤ l.length) : (l.take (pos + k)).drop fr = (l.take pos).drop fr ++ (l.drop pos).take k := by
  rw [List.take_add, List.drop_append_of_le_length (by rw [List.length_take]; omega)]
theorem free_get {l : List UInt8} {b : UInt8} {pos k : Nat} (hk : pos + k ≤ l.length) (h : ∀ x ∈ (l.drop pos).take k, x ≠ b) : ∀ j, j < k → l.getD (pos + j) 0 ≠ b := fun j hj => by
  rw [List.getD_eq_getElem?_getD, List.getElem?_eq_getElem (by omega)]
  refine h _ ?_
  rw [List.mem_iff_getElem]
  exact ⟨j, by rw [List.length_take, List.length_drop]; omega, by rw [List.getElem_take, List.getElem_drop]; rfl⟩
open Go.RowKit

theorem dec_rune (s : ByteArray) (pos : Nat) (h : pos < s.size) : ∃ (r k : Nat) (c : UInt8), Utf8.decode s pos = (r, k) ∧ s.data.toList[pos]? = some c ∧ r ≤ 1114111 ∧ 1 ≤ k ∧
    ((c.toNat < 48 ∧ r < 48) ∨ (57 < c.toNat ∧ 57 < r) ∨ (48 ≤ c.toNat ∧ c.toNat ≤ 57 ∧ r = c.toNat ∧ k = 1)) := by
  by_cases ha : (s[pos]'h).toNat < 128
  · refine ⟨_, 1, s[pos]'h, decode_ascii s pos h ha, get?_at s pos h, by omega, Nat.le_refl _, by omega⟩
  · obtain ⟨h1, h2, h3, _, _⟩ := rune_hi s pos h (by omega)
    refine ⟨(Utf8.decode s pos).1, (Utf8.decode s pos).2, s[pos]'h, rfl, get?_at s pos h, h2, h3, .inr (.inl ⟨?_, ?_⟩)⟩ <;> omega

/-- What decimal answers. -/
def DecPost (l : List UInt8) (most : Int) (w : World) (e : Ending) (w' : World) : Prop :=
  e = .returned (.tuple #[.int .i64 (if 0 ≤ numI l most then numI l most else 0), .bool (decide (0 ≤ numI l most))]) ∧ Below w.heap.size w w'
theorem decPost_no {l : List UInt8} {most : Int} {w w' : World} (h : numI l most = -1) (hb : Below w.heap.size w w') : DecPost l most w (.returned (.tuple #[.int .i64 0, .bool false])) w' := by
  unfold DecPost; rw [h]; exact ⟨rfl, hb⟩
theorem decPost_yes {l : List UInt8} {most : Int} {w w' : World} {v : Nat} (h : numI l most = v) (hb : Below w.heap.size w w') : DecPost l most w (.returned (.tuple #[.int .i64 (v : Int), .bool true])) w' := by
  unfold DecPost; rw [h, if_pos (by omega), decide_eq_true (by omega)]; exact ⟨rfl, hb⟩

set_option maxRecDepth 100000 in
set_option maxHeartbeats 2000000 in
theorem decimal_any (s : ByteArray) (most : Int) (w : World) (hs : s.size ≤ 140737488355328) (hm0 : 0 ≤ most) (hm1 : most < 1000) :
    Calls Tryd.prog 92 #[.string s, .int .i64 most] w (DecPost s.data.toList most w) := by
  have hlen : s.data.toList.length = s.size := by simp
  have bel : ∀ p, Below w.heap.size w (w.iter s p) := fun p => (Below.refl _ _).alloc (Nat.le_refl _) _
  go_enter Tryd.func92, Tryd.ntmps92
  go_wp2
  go_loopw [6] (fun v wr => ∃ (pos n : Nat), v = .int .i64 n ∧ pos ≤ s.size ∧ wr = w.iter s pos ∧ DecInv s.data.toList pos n ∧ (n : Int) ≤ most) (fun _ wr => s.size - wr.iterPos w.heap.size)
  case atStart => exact ⟨0, 0, rfl, by omega, rfl, dec_start _, hm0⟩
  case round =>
    obtain ⟨pos, n, rfl, hp, rfl, hi, hn⟩ := hrel
    have n0 : (0 : Int) ≤ n := by omega
    have n1 : (n : Int) < 1000 := by omega
    by_cases hlt : pos < s.size
    · obtain ⟨r, k, c, hd, hc, hr, hk, hcase⟩ := dec_rune s pos hlt
      have hnx : ∀ ty, (Instr.next (.pointer (some ⟨w.heap.size, 0, none⟩)) true ty).run Tryd.prog (w.iter s pos) = .ok (.tuple #[.bool true, .int .i64 pos, .int .i32 r]) (w.iter s (pos + k)) := fun ty => by
        have := run_next_any (P := Tryd.prog) w s pos ty hlt
        rw [hd] at this; exact this
      have k0 : (0 : Int) ≤ pos := by omega
      have k1 : (pos : Int) < s.size := by omega
      have p1 : (s.size : Int) ≤ 140737488355328 := by omega
      have r0 : (0 : Int) ≤ r := by omega
      have r1 : (r : Int) ≤ 1114111 := by omega
      clear hd
      by_cases hz : 0 < pos ∧ n = 0
      · obtain ⟨hz1, rfl⟩ := hz
        have hno := Lib.hid (dec_zero hi hz1 hc most)
        have z1 : (0 : Int) < pos := by omega
        clear hcase hc hi
        go_wp2
        go_ret2
        exact decPost_no hno.out (bel _)
      have hi' := Lib.hid hi
      rcases hcase with ⟨hc1, hr1⟩ | ⟨hc1, hr1⟩ | ⟨hc1, hc2, rfl, rfl⟩
      · have hno := Lib.hid (dec_bad hi hc (.inl hc1) most)
        have t1 : (r : Int) < 48 := by omega
        clear hc hi hi'
        by_cases hp0 : pos = 0
        · subst hp0
          have hnx0 : ∀ ty, (Instr.next (.pointer (some ⟨w.heap.size, 0, none⟩)) true ty).run Tryd.prog (w.iter s 0) = .ok (.tuple #[.bool true, .int .i64 0, .int .i32 r]) (w.iter s k) := fun ty => by
            have := hnx ty; rwa [Nat.zero_add] at this
          clear hnx k0 k1 hlt hp
          go_wp2
          go_ret2
          exact decPost_no hno.out (bel _)
        · have z1 : (0 : Int) < pos := by omega
          have z2 : ((n : Int) == 0) = false := beq_eq_false_iff_ne.2 (by omega)
          go_wp2
          go_ret2
          exact decPost_no hno.out (bel _)
      · have hno := Lib.hid (dec_bad hi hc (.inr hc1) most)
        have t1 : decide ((r : Int) < 48) = false := decide_eq_false (by omega)
        have t2 : (57 : Int) < r := by omega
        clear hc hi hi'
        by_cases hp0 : pos = 0
        · subst hp0
          have hnx0 : ∀ ty, (Instr.next (.pointer (some ⟨w.heap.size, 0, none⟩)) true ty).run Tryd.prog (w.iter s 0) = .ok (.tuple #[.bool true, .int .i64 0, .int .i32 r]) (w.iter s k) := fun ty => by
            have := hnx ty; rwa [Nat.zero_add] at this
          clear hnx k0 k1 hlt hp
          go_wp2
          go_ret2
          exact decPost_no hno.out (bel _)
        · have z1 : (0 : Int) < pos := by omega
          have z2 : ((n : Int) == 0) = false := beq_eq_false_iff_ne.2 (by omega)
          go_wp2
          go_ret2
          exact decPost_no hno.out (bel _)
      · have t1 : decide ((c.toNat : Int) < 48) = false := decide_eq_false (by omega)
        have t2 : decide ((57 : Int) < c.toNat) = false := decide_eq_false (by omega)
        have q0 : (48 : Int) ≤ c.toNat := by omega
        have q1 : (c.toNat : Int) ≤ 57 := by omega
        have e1 : ((10 * n + (c.toNat - 48) : Nat) : Int) = 10 * n + (c.toNat - 48) := by omega
        by_cases hbig : most < ((10 * n + (c.toNat - 48) : Nat) : Int)
        · have hno := Lib.hid (dec_big hi hc hc1 hc2 most hbig)
          have t3 : most < 10 * (n : Int) + (c.toNat - 48) := by omega
          clear hc hi hi' hbig e1
          by_cases hp0 : pos = 0
          · subst hp0
            have hnx0 : ∀ ty, (Instr.next (.pointer (some ⟨w.heap.size, 0, none⟩)) true ty).run Tryd.prog (w.iter s 0) = .ok (.tuple #[.bool true, .int .i64 0, .int .i32 (c.toNat : Int)]) (w.iter s 1) := fun ty => by
              have := hnx ty; rwa [Nat.zero_add] at this
            clear hnx k0 k1 hlt hp
            go_wp2
            go_ret2
            exact decPost_no hno.out (bel _)
          · have z1 : (0 : Int) < pos := by omega
            have z2 : ((n : Int) == 0) = false := beq_eq_false_iff_ne.2 (by omega)
            go_wp2
            go_ret2
            exact decPost_no hno.out (bel _)
        · have hst := Lib.hid (dec_step hi hc hc1 hc2 hz)
          have t3 : decide (most < 10 * (n : Int) + (c.toNat - 48)) = false := decide_eq_false (by omega)
          have t4 : Hid (((10 * n + (c.toNat - 48) : Nat) : Int) ≤ most) := Lib.hid (by omega)
          have E1 := Lib.hid e1
          clear hc hi hi' hbig e1
          by_cases hp0 : pos = 0
          · subst hp0
            have hnx0 : ∀ ty, (Instr.next (.pointer (some ⟨w.heap.size, 0, none⟩)) true ty).run Tryd.prog (w.iter s 0) = .ok (.tuple #[.bool true, .int .i64 0, .int .i32 (c.toNat : Int)]) (w.iter s 1) := fun ty => by
              have := hnx ty; rwa [Nat.zero_add] at this
            clear hnx k0 k1
            go_wp2
            go_roundw
            case rel => exact ⟨1, 10 * n + (c.toNat - 48), by rw [E1.out], by omega, rfl, hst.out, t4.out⟩
            case measure => simp; omega
          · have z1 : (0 : Int) < pos := by omega
            have z2 : ((n : Int) == 0) = false := beq_eq_false_iff_ne.2 (by omega)
            go_wp2
            go_roundw
            case rel => exact ⟨pos + 1, 10 * n + (c.toNat - 48), by rw [E1.out], by omega, rfl, hst.out, t4.out⟩
            case measure => simp; omega
    · obtain rfl : pos = s.size := by omega
      have hnx : ∀ ty, (Instr.next (.pointer (some ⟨w.heap.size, 0, none⟩)) true ty).run Tryd.prog (w.iter s s.size) = .ok (.tuple #[.bool false]) (w.iter s s.size) := fun ty => run_next_end w s s.size ty hlt
      by_cases h0 : s.size = 0
      · have hl : s.data.toList = [] := List.eq_nil_of_length_eq_zero (by omega)
        have hno : Hid (numI s.data.toList most = -1) := Lib.hid (by rw [hl]; exact dec_none most)
        obtain ⟨rfl⟩ : n = 0 := by
          rcases hi.2 with h | h | h <;> omega
        have hem : s.toList.isEmpty = true := by rw [ByteArray.toList_eq, hl]; rfl
        have HN := Lib.hid hn
        clear h0 hl hi hn
        go_wp2
        go_ret2
        exact decPost_no hno.out (bel _)
      · have hem : s.toList.isEmpty = false := by
          rw [ByteArray.toList_eq]
          cases hl : s.data.toList with
          | nil => rw [hl] at hlen; simp at hlen; omega
          | cons _ _ => rfl
        have hno : Hid (numI s.data.toList most = n) := by
          rw [← hlen] at hi
          exact Lib.hid (dec_end hi (by omega) most hn hm1)
        clear h0 hi hn
        go_wp2
        go_ret2
        exact decPost_yes hno.out (bel _)
open Go.RowKit

/-- Is a line empty or a remark? -/
def skipL (l : List UInt8) : Bool := match l.dropWhile isBl with
  | [] => true
  | c :: _ => c == 35
theorem skip_at {l : List UInt8} {pos : Nat} {c : UInt8} (h : ∀ x ∈ l.take pos, isBl x = true) (hc : l[pos]? = some c) (hb : isBl c = false) : skipL l = (c == 35) := by
  have e : l = l.take pos ++ c :: l.drop (pos + 1) := by rw [← drop_at hc, List.take_append_drop]
  unfold skipL
  rw [e, List.dropWhile_append_of_pos h, List.dropWhile_cons, if_neg (by rw [hb]; decide)]
theorem skip_end {l : List UInt8} (h : ∀ x ∈ l.take l.length, isBl x = true) : skipL l = true := by
  have e : l.dropWhile isBl = [] := by
    rw [List.take_length] at h
    have := List.dropWhile_append_of_pos (l₂ := []) h
    rwa [List.append_nil] at this
  unfold skipL
  rw [e]
theorem take_one {p : UInt8 → Prop} {l : List UInt8} {pos : Nat} {c : UInt8} (h : ∀ x ∈ l.take pos, p x) (hc : l[pos]? = some c) (hp : p c) : ∀ x ∈ l.take (pos + 1), p x := by
  rw [List.take_add_one, hc]
  intro x hx
  rcases List.mem_append.1 hx with h1 | h1
  · exact h x h1
  · rw [Option.toList_some, List.mem_singleton] at h1; rw [h1]; exact hp
theorem take_all {p : UInt8 → Prop} {l : List UInt8} {pos k : Nat} (h : ∀ x ∈ l.take pos, p x) (hp : ∀ x ∈ (l.drop pos).take k, p x) : ∀ x ∈ l.take (pos + k), p x := by
  rw [List.take_add]
  intro x hx
  rcases List.mem_append.1 hx with h1 | h1
  · exact h x h1
  · exact hp x h1
/-- What stands ahead of the first b, and behind it. -/
def cut1 (b : UInt8) : List UInt8 → Option (List UInt8 × List UInt8)
  | [] => none
  | c :: l => if c = b then some ([], l) else (cut1 b l).map fun x => (c :: x.1, x.2)
theorem cut1_skip {b : UInt8} : ∀ (x y : List UInt8), (∀ c ∈ x, c ≠ b) → cut1 b (x ++ y) = (cut1 b y).map fun z => (x ++ z.1, z.2)
  | [], y, _ => by rw [List.nil_append]; cases cut1 b y <;> simp
  | c :: x, y, h => by
    rw [List.cons_append, cut1, if_neg (h c (by simp)), cut1_skip x y (fun d hd => h d (by simp [hd]))]
    cases cut1 b y <;> rfl
theorem cut1_at {b : UInt8} {l : List UInt8} {pos : Nat} (h : ∀ x ∈ l.take pos, x ≠ b) (hc : l[pos]? = some b) : cut1 b l = some (l.take pos, l.drop (pos + 1)) := by
  have e : l = l.take pos ++ b :: l.drop (pos + 1) := by rw [← drop_at hc, List.take_append_drop]
  conv => lhs; rw [e]
  rw [cut1_skip _ _ h, cut1, if_pos rfl]
  simp
theorem cut1_none {b : UInt8} {l : List UInt8} (h : ∀ x ∈ l.take l.length, x ≠ b) : cut1 b l = none := by
  rw [List.take_length] at h
  have := cut1_skip l [] h
  rwa [List.append_nil] at this
theorem words_free : ∀ (x y u : List UInt8), (∀ c ∈ x, isBl c = false) → wordsGo (x ++ y) u = wordsGo y (u ++ x)
  | [], y, u, _ => by simp
  | c :: x, y, u, h => by
    rw [List.cons_append, wordsGo, if_neg (by rw [h c (by simp)]; decide), words_free x y _ (fun d hd => h d (by simp [hd]))]
    simp
theorem words_skip {r ws : List (List UInt8)} {l : List UInt8} {pos k fr : Nat} (h : ws ++ wordsGo (l.drop pos) ((l.take pos).drop fr) = r) (hf : fr ≤ pos) (hk : pos + k ≤ l.length) (hb : ∀ x ∈ (l.drop pos).take k, isBl x = false) :
    ws ++ wordsGo (l.drop (pos + k)) ((l.take (pos + k)).drop fr) = r := by
  rw [take_more hf hk, ← words_free _ _ _ hb, ← List.drop_drop, List.take_append_drop]
  exact h
theorem words_blank {r ws : List (List UInt8)} {l : List UInt8} {pos fr : Nat} {c : UInt8} (h : ws ++ wordsGo (l.drop pos) ((l.take pos).drop fr) = r) (hc : l[pos]? = some c) (hb : isBl c = true) :
    (if (l.take pos).drop fr = [] then ws else ws ++ [(l.take pos).drop fr]) ++ wordsGo (l.drop (pos + 1)) ((l.take (pos + 1)).drop (pos + 1)) = r := by
  rw [show (l.take (pos + 1)).drop (pos + 1) = [] from List.drop_eq_nil_of_le (by rw [List.length_take]; omega)]
  exact words_cut h (.inr ⟨c, hc, hb⟩)
theorem words_end {r ws : List (List UInt8)} {l : List UInt8} {fr : Nat} (h : ws ++ wordsGo (l.drop l.length) ((l.take l.length).drop fr) = r) :
    (if l.drop fr = [] then ws else ws ++ [l.drop fr]) = r := by
  have := words_cut h (.inl rfl)
  rwa [show l.drop (l.length + 1) = [] from List.drop_eq_nil_of_le (by omega), wordsGo, if_pos rfl, List.append_nil, List.take_length] at this
theorem piece_nil {l : List UInt8} {pos fr : Nat} (hp : pos ≤ l.length) (h : ¬ fr < pos) : (l.take pos).drop fr = [] := List.drop_eq_nil_of_le (by rw [List.length_take]; omega)
theorem piece_some {l : List UInt8} {pos fr : Nat} (hp : pos ≤ l.length) (h : fr < pos) : (l.take pos).drop fr ≠ [] := fun e => by
  have := congrArg List.length e
  rw [List.length_drop, List.length_take] at this
  simp at this
  omega
theorem drop_some {l : List UInt8} {fr : Nat} (h : fr < l.length) : ¬ l.drop fr = [] := by rw [List.drop_eq_nil_iff]; omega
theorem drop_none {l : List UInt8} {fr : Nat} (h : ¬ fr < l.length) : l.drop fr = [] := List.drop_eq_nil_of_le (by omega)
/-- What cut answers. -/
def cutV (b : UInt8) (l : List UInt8) : Value := match cut1 b l with
  | some (x, y) => .tuple #[.string ⟨x.toArray⟩, .string ⟨y.toArray⟩, .bool true]
  | none => .tuple #[.string ⟨#[]⟩, .string ⟨#[]⟩, .bool false]
/-- The only word of a text. -/
def onlyW (l : List UInt8) : Option (List UInt8) := match wordsL l with
  | [x] => some x
  | _ => none
theorem lines_of {l : List UInt8} {ps : List (List UInt8)} {fr : Nat} (h : cutF 10 l = ps ++ [l.drop fr]) (hf : fr ≤ l.length) : linesL l = if fr < l.length then ps ++ [l.drop fr] else ps := by
  unfold linesL
  rw [h]
  simp only [List.getLast?_append, List.getLast?_singleton, Option.some_or, List.dropLast_concat]
  by_cases hpl : fr < l.length
  · rw [if_neg (by simp; omega), if_pos hpl]
  · rw [if_pos (by simp; omega), if_neg hpl]
theorem dec_end9 {l : List UInt8} {v : Nat} (h : DecInv l l.length v) (hl : 0 < l.length) (h9 : l.length ≤ 9) (most : Int) (hv : (v : Int) ≤ most) : numI l most = v := by
  have hg : numGo l 0 = some v := by rw [← h.1, List.drop_length]; rfl
  rw [numI_some most v ?_ hg, if_neg (by omega)]
  rcases h.2 with ⟨h1, _⟩ | ⟨h1, _, _⟩ | ⟨h1, h2, h3⟩
  · omega
  · omega
  · rintro (h4 | h4 | ⟨_, h4⟩)
    · omega
    · omega
    · exact h3 h4
theorem pow_le9 {n k : Nat} (h : n < 10 ^ k) (hk : k ≤ 8) : (n : Int) ≤ 99999999 := by
  have : (10 : Nat) ^ k ≤ 10 ^ 8 := Nat.pow_le_pow_right (by omega) hk
  omega
theorem pow_next {n k d : Nat} (h : n < 10 ^ k) (hd : d ≤ 9) : 10 * n + d < 10 ^ (k + 1) := by
  rw [Nat.pow_succ]; omega
set_option linter.unusedVariables false in
set_option maxRecDepth 100000 in
set_option maxHeartbeats 16000000 in
theorem isBlank_any (r : Nat) (w : World) : Calls Tryd.prog 70 #[.int .i32 (r : Int)] w fun e w' => e = .returned (.bool (blN r)) ∧ w = w' := by
  skip
  go_enter Tryd.func70, Tryd.ntmps70
  rcases (by decide : ∀ b : Bool, b = true ∨ b = false) ((r : Int) == 32) with h0 | h0
  · have HP : Hid (blN r = true) := Lib.hid (by unfold blN; rw [← int_beq r 32]; rw [show ((r : Int) == ((32 : Nat) : Int)) = true from h0]; rfl)
    go_wp2_with fail
    go_ret
    exact ⟨by rw [HP.out]; rfl, rfl⟩
  · rcases (by decide : ∀ b : Bool, b = true ∨ b = false) ((r : Int) == 9) with h1 | h1
    · have HP : Hid (blN r = true) := Lib.hid (by unfold blN; rw [← int_beq r 32, ← int_beq r 9]; rw [show ((r : Int) == ((32 : Nat) : Int)) = false from h0, show ((r : Int) == ((9 : Nat) : Int)) = true from h1]; rfl)
      go_wp2_with fail
      go_ret
      exact ⟨by rw [HP.out]; rfl, rfl⟩
    · have HP : Hid (blN r = false) := Lib.hid (by unfold blN; rw [← int_beq r 32, ← int_beq r 9]; rw [show ((r : Int) == ((32 : Nat) : Int)) = false from h0, show ((r : Int) == ((9 : Nat) : Int)) = false from h1]; rfl)
      go_wp2_with fail
      go_ret
      exact ⟨by rw [HP.out]; rfl, rfl⟩
set_option linter.unusedVariables false in
set_option maxRecDepth 100000 in
set_option maxHeartbeats 16000000 in
theorem isSkipped_any (l : List UInt8) (w : World) : Calls Tryd.prog 51 #[.string ⟨l.toArray⟩] w fun e w' => e = .returned (.bool (skipL l)) ∧ Below w.heap.size w w' := by
  have bel := Below.refl w.heap.size w
  go_enter Tryd.func51, Tryd.ntmps51
  go_wp2_with (first | ((with_reducible show wpList _ _ _ (⟨some 6, _, _, _, _, _⟩ :: _) _ _); refine wpList_range_n rfl 9 (.tmp 5) rfl (by kernel_rfl) (l) rfl ?_; intro g6 w1 ge lt hh bb; have oit := Nat.le_trans bel.size ge; replace bel := bel.trans (bb.mono bel.size); have hit := hh; clear hh lt ge bb))
  simp only [Act.put, List.setIfInBounds_toArray, List.set_cons_zero, List.set_cons_succ]
  go_loopg [] (l.length + 1) (fun gk  wr => ∃ pos : Nat, gk = l.length + 1 - pos ∧ pos ≤ l.length ∧ Hid (∀ x ∈ l.take pos, isBl x = true) ∧ wr.heap[g6]? = some (.stringIter ⟨(l).toArray⟩ (pos)) ∧ Below w.heap.size w wr)
  case atStart => exact ⟨0, rfl, Nat.zero_le _, Lib.hid (fun x hx => by simp at hx), hit, bel⟩
  case round =>
    clear hit bel
    obtain ⟨pos, HGK, hp, HB, hit, bel⟩ := hrel
    have HGK_ := Lib.hid HGK
    clear HGK
    by_cases hpl : pos < l.length
    · obtain ⟨r, k, c, hd, hc, hr, hk, hkl, hcase⟩ := rune_bl l pos hpl
      have HD := Lib.hid hd
      have HC := Lib.hid hc
      clear hd hc
      have r0 : (0 : Int) ≤ r := by omega
      have r1 : (r : Int) ≤ 1114111 := by omega
      have p0 : (0 : Int) ≤ pos := by omega
      rcases hcase with ⟨hb, hk1, hbc⟩ | ⟨hb, hbc, h35, hfree⟩
      · have HBL := Lib.hid hb
        have HBC := Lib.hid hbc
        clear hb hbc
        go_wp2_with (first | ((with_reducible show wpList _ _ _ (⟨some 7, _, _, _, _, _⟩ :: _) _ _); refine wpList_next_n rfl (.tmp 6) rfl g6 rfl (l) (pos) hit (r) (k) (HD.out) (hpl) ((pos : Int)) (rfl) ?_; intro w2 hq gr; replace bel := below_grown bel gr oit bel.size; clear hit; have hit := hq; clear hq gr))
        with_reducible refine (isBlank_any _ _).mono ?_
        rintro e _ ⟨rfl, rfl⟩
        rw [HBL.out]
        go_wp2_with fail
        go_roundg (l.length + 1 - (pos + k))
        case measure => have := HGK_.out; omega
        case rel => exact ⟨pos + k, rfl, hkl, Lib.hid (by subst hk1; exact take_one HB.out HC.out HBC.out), hit, bel⟩
      · have HBL := Lib.hid hb
        have HP : Hid (skipL l = (c == 35)) := Lib.hid (skip_at HB.out HC.out hbc)
        obtain ⟨b9, h9⟩ : ∃ b, (c == 35) = b := ⟨_, rfl⟩
        rw [h9] at h35 HP
        clear hb hbc hfree h9
        go_wp2_with (first | ((with_reducible show wpList _ _ _ (⟨some 7, _, _, _, _, _⟩ :: _) _ _); refine wpList_next_n rfl (.tmp 6) rfl g6 rfl (l) (pos) hit (r) (k) (HD.out) (hpl) ((pos : Int)) (rfl) ?_; intro w2 hq gr; replace bel := below_grown bel gr oit bel.size; clear hit; have hit := hq; clear hq gr))
        with_reducible refine (isBlank_any _ _).mono ?_
        rintro e _ ⟨rfl, rfl⟩
        rw [HBL.out]
        go_wp2_with fail
        go_ret
        exact ⟨by rw [HP.out]; rfl, bel⟩
    · have HP : Hid (skipL l = true) := Lib.hid (skip_end (by have h := HB.out; rw [show pos = l.length by omega] at h; exact h))
      have R7 := fun ty => next_end (P := Tryd.prog) ty hit (hpl)
      go_wp2_with fail
      clear R7
      go_ret
      exact ⟨by rw [HP.out]; rfl, bel⟩
set_option linter.unusedVariables false in
set_option maxRecDepth 100000 in
set_option maxHeartbeats 16000000 in
theorem ccut_any (b : UInt8) (B : Int) (hB : (b.toNat : Int) = B) (hb7 : b.toNat < 128) (l : List UInt8) (w : World) (hlen : l.length ≤ 100000) : Calls Tryd.prog 52 #[.string ⟨l.toArray⟩, .int .i32 B] w fun e w' => e = .returned (cutV b l) ∧ Below w.heap.size w w' := by
  have HBB := Lib.hid hB
  have bel := Below.refl w.heap.size w
  go_enter Tryd.func52, Tryd.ntmps52
  go_wp2_with (first | ((with_reducible show wpList _ _ _ (⟨some 10, _, _, _, _, _⟩ :: _) _ _); refine wpList_range_n rfl 9 (.tmp 9) rfl (by kernel_rfl) (l) rfl ?_; intro g10 w1 ge lt hh bb; have oit := Nat.le_trans bel.size ge; replace bel := bel.trans (bb.mono bel.size); have hit := hh; clear hh lt ge bb))
  simp only [Act.put, List.setIfInBounds_toArray, List.set_cons_zero, List.set_cons_succ]
  go_loopg [] (l.length + 1) (fun gk  wr => ∃ pos : Nat, gk = l.length + 1 - pos ∧ pos ≤ l.length ∧ Hid (∀ x ∈ l.take pos, x ≠ b) ∧ wr.heap[g10]? = some (.stringIter ⟨(l).toArray⟩ (pos)) ∧ Below w.heap.size w wr)
  case atStart => exact ⟨0, rfl, Nat.zero_le _, Lib.hid (fun x hx => by simp at hx), hit, bel⟩
  case round =>
    clear hit bel
    obtain ⟨pos, HGK, hp, HN, hit, bel⟩ := hrel
    have HGK_ := Lib.hid HGK
    clear HGK
    by_cases hpl : pos < l.length
    · obtain ⟨r, k, hd, hr, hk, hkl, hcase⟩ := rune_sep b hb7 l pos hpl
      rw [HBB.out] at hcase
      have HD := Lib.hid hd
      clear hd
      have r0 : (0 : Int) ≤ r := by omega
      have r1 : (r : Int) ≤ 1114111 := by omega
      have p0 : (0 : Int) ≤ pos := by omega
      have p1 : (pos : Int) ≤ 100000 := by omega
      rcases hcase with ⟨hq, hk1, hc⟩ | ⟨hq, hfree⟩
      · have HP : Hid (cutV b l = .tuple #[.string ⟨(l.take pos).toArray⟩, .string ⟨(l.drop (pos + 1)).toArray⟩, .bool true]) := Lib.hid (by unfold cutV; rw [cut1_at HN.out hc])
        have w1 : IntKind.i64.wrap ((pos : Int) + 1) = (pos : Int) + 1 := IntWalk.i64_in _ (by omega)
        have s20 := fun W => st_to (l := l) (j := pos) hp W
        have s24 : ∀ W, (Instr.slice 9 (.string ⟨l.toArray⟩) (some (.int .i64 ((pos : Int) + 1))) none none).run Tryd.prog W = .ok (.string ⟨(l.drop (pos + 1)).toArray⟩) W := fun W => st_from (l := l) (i := pos + 1) hpl W
        clear hc
        go_wp2_with (first | ((with_reducible show wpList _ _ _ (⟨some 11, _, _, _, _, _⟩ :: _) _ _); refine wpList_next_n rfl (.tmp 10) rfl g10 rfl (l) (pos) hit (r) (k) (HD.out) (hpl) ((pos : Int)) (rfl) ?_; intro w2 hq gr; replace bel := below_grown bel gr oit bel.size; clear hit; have hit := hq; clear hq gr))
        replace bel := bel.drew
        replace hit : w2.drew.heap[g10]? = _ := hit
        refine wp_region_held_drew (S := fun _ => True) (by kernel_rfl) trivial (fun hH => ?_)
        generalize w2.drew = w3 at bel hit hH ⊢
        refine wpAnyH_take (i := 0) (v := ?_) rfl (by kernel_rfl) (by kernel_rfl) (by kernel_rfl) (fun _ _ _ h => h) (Or.inl ⟨by rfl, ?_⟩) hH ?_
        rotate_left
        · ((intro W hW; clear hW; go_simp) <;> with_reducible rfl)
        simp only [Act.put, List.getElem_toArray, List.getElem_cons_zero, List.setIfInBounds_toArray, List.set_cons_zero, List.set_cons_succ]
        refine wpAnyH_take (i := 1) (v := ?_) rfl (by kernel_rfl) (by kernel_rfl) (by kernel_rfl) (fun _ _ _ h => h) (Or.inl ⟨by rfl, ?_⟩) hH ?_
        rotate_left
        · ((intro W hW; clear hW; go_simp) <;> with_reducible rfl)
        simp only [Act.put, List.getElem_toArray, List.getElem_cons_zero, List.getElem_cons_succ, List.setIfInBounds_toArray, List.set_cons_zero, List.set_cons_succ]
        refine wpAnyH_take (i := 2) (v := ?_) rfl (by kernel_rfl) (by kernel_rfl) (by kernel_rfl) (fun _ _ _ h => h) (Or.inl ⟨by rfl, ?_⟩) hH ?_
        rotate_left
        · ((intro W hW; clear hW; go_simp) <;> with_reducible rfl)
        simp only [Act.put, List.getElem_toArray, List.getElem_cons_zero, List.getElem_cons_succ, List.setIfInBounds_toArray, List.set_cons_zero, List.set_cons_succ]
        refine wpAnyH_take (i := 3) (v := ?_) rfl (by kernel_rfl) (by kernel_rfl) (by kernel_rfl) (fun _ _ _ h => h) (Or.inl ⟨by rfl, ?_⟩) hH ?_
        rotate_left
        · ((intro W hW; clear hW; go_simp) <;> with_reducible rfl)
        simp only [Act.put, List.getElem_toArray, List.getElem_cons_zero, List.getElem_cons_succ, List.setIfInBounds_toArray, List.set_cons_zero, List.set_cons_succ]
        refine wpAnyH_take (i := 4) (v := ?_) rfl (by kernel_rfl) (by kernel_rfl) (by kernel_rfl) (fun _ _ _ h => h) (Or.inl ⟨by rfl, ?_⟩) hH ?_
        rotate_left
        · ((intro W hW; clear hW; go_simp) <;> with_reducible rfl)
        simp only [Act.put, List.getElem_toArray, List.getElem_cons_zero, List.getElem_cons_succ, List.setIfInBounds_toArray, List.set_cons_zero, List.set_cons_succ]
        refine wpAnyH_take (i := 5) (v := ?_) rfl (by kernel_rfl) (by kernel_rfl) (by kernel_rfl) (fun _ _ _ h => h) (Or.inl ⟨by rfl, ?_⟩) hH ?_
        rotate_left
        · ((intro W hW; clear hW; go_simp) <;> with_reducible rfl)
        simp only [Act.put, List.getElem_toArray, List.getElem_cons_zero, List.getElem_cons_succ, List.setIfInBounds_toArray, List.set_cons_zero, List.set_cons_succ]
        refine wpAnyH_take (i := 6) (v := ?_) rfl (by kernel_rfl) (by kernel_rfl) (by kernel_rfl) (fun _ _ _ h => h) (Or.inl ⟨by rfl, ?_⟩) hH ?_
        rotate_left
        · ((intro W hW; clear hW; go_simp) <;> with_reducible rfl)
        simp only [Act.put, List.getElem_toArray, List.getElem_cons_zero, List.getElem_cons_succ, List.setIfInBounds_toArray, List.set_cons_zero, List.set_cons_succ]
        refine wpAnyH_take (i := 7) (v := ?_) rfl (by kernel_rfl) (by kernel_rfl) (by kernel_rfl) (fun _ _ _ h => h) (Or.inl ⟨by rfl, ?_⟩) hH ?_
        rotate_left
        · ((intro W hW; clear hW; go_simp) <;> with_reducible rfl)
        simp only [Act.put, List.getElem_toArray, List.getElem_cons_zero, List.getElem_cons_succ, List.setIfInBounds_toArray, List.set_cons_zero, List.set_cons_succ]
        refine wpAnyH_take (i := 8) (v := ?_) rfl (by kernel_rfl) (by kernel_rfl) (by kernel_rfl) (fun _ _ _ h => h) (Or.inl ⟨by rfl, ?_⟩) hH ?_
        rotate_left
        · ((intro W hW; clear hW; go_simp) <;> with_reducible rfl)
        simp only [Act.put, List.getElem_toArray, List.getElem_cons_zero, List.getElem_cons_succ, List.setIfInBounds_toArray, List.set_cons_zero, List.set_cons_succ]
        refine wpAnyH_take (i := 9) (v := ?_) rfl (by kernel_rfl) (by kernel_rfl) (by kernel_rfl) (fun _ _ _ h => h) (Or.inl ⟨by rfl, ?_⟩) hH ?_
        rotate_left
        · ((intro W hW; clear hW; go_simp) <;> with_reducible rfl)
        simp only [Act.put, List.getElem_toArray, List.getElem_cons_zero, List.getElem_cons_succ, List.setIfInBounds_toArray, List.set_cons_zero, List.set_cons_succ]
        refine wpAnyH_done (by kernel_rfl) ?_ _
        go_wp2_with fail
        exact bodyPost_ret (v := .tuple #[.string ⟨(l.take pos).toArray⟩, .string ⟨(l.drop (pos + 1)).toArray⟩, .bool true]) (by simp [results, Tryd.results52, go_sem]) rfl ⟨by rw [HP.out], bel⟩
      · have HF := Lib.hid hfree
        clear hfree
        go_wp2_with (first | ((with_reducible show wpList _ _ _ (⟨some 11, _, _, _, _, _⟩ :: _) _ _); refine wpList_next_n rfl (.tmp 10) rfl g10 rfl (l) (pos) hit (r) (k) (HD.out) (hpl) ((pos : Int)) (rfl) ?_; intro w2 hq gr; replace bel := below_grown bel gr oit bel.size; clear hit; have hit := hq; clear hq gr))
        go_roundg (l.length + 1 - (pos + k))
        case measure => have := HGK_.out; omega
        case rel => exact ⟨pos + k, rfl, hkl, Lib.hid (take_all HN.out HF.out), hit, bel⟩
    · have HP : Hid (cutV b l = .tuple #[.string ⟨#[]⟩, .string ⟨#[]⟩, .bool false]) := Lib.hid (by unfold cutV; rw [cut1_none (by have h := HN.out; rw [show pos = l.length by omega] at h; exact h)])
      have R11 := fun ty => next_end (P := Tryd.prog) ty hit (hpl)
      go_wp2_with fail
      clear R11
      exact bodyPost_ret (v := .tuple #[.string ⟨#[]⟩, .string ⟨#[]⟩, .bool false]) (by simp [results, Tryd.results52, go_sem]) rfl ⟨by rw [HP.out], bel⟩
set_option linter.unusedVariables false in
set_option maxRecDepth 100000 in
set_option maxHeartbeats 16000000 in
theorem wordsOf_any (l : List UInt8) (w : World) (hlen : l.length ≤ 100000) : Calls Tryd.prog 71 #[.string ⟨l.toArray⟩] w fun e w' => ∃ v, e = .returned v ∧ w'.ownsRow w.heap.size 9 1 v (wordsL l).length ((wordsL l).flatMap stf) ∧ Below w.heap.size w w' := by
  obtain ⟨is, his, his0, his1, his2⟩ := info_parts Tryd.info_str
  have bel := Below.refl w.heap.size w
  go_enter Tryd.func71, Tryd.ntmps71
  go_wp2_with (first | ((with_reducible show wpList _ _ _ (⟨some 8, _, _, _, _, _⟩ :: _) _ _); refine wpList_range_n rfl 9 (.tmp 7) rfl (by kernel_rfl) (l) rfl ?_; intro g8 w1 ge lt hh bb; have oit := Nat.le_trans bel.size ge; replace bel := bel.trans (bb.mono bel.size); have hit := hh; clear hh lt ge bb))
  simp only [Act.put, List.setIfInBounds_toArray, List.set_cons_zero, List.set_cons_succ]
  go_loopg [3, 4] (l.length + 1) (fun gk s3 s4 wr => ∃ pos : Nat, ∃ fr : Nat, ∃ ws : List (List UInt8), ∃ nw : Nat, ∃ (Awt : Option Addr) (cwt : Nat), gk = l.length + 1 - pos ∧ pos ≤ l.length ∧ fr ≤ pos ∧ Hid (ws ++ wordsGo (l.drop pos) ((l.take pos).drop fr) = wordsL l) ∧ nw ≤ pos ∧ s3 = .slice Awt nw cwt ∧ s4 = .int .i64 (fr : Int) ∧ wr.ownsRow (w.heap.size) 9 1 (.slice Awt (nw) cwt) (nw) ((ws : List (List UInt8)).flatMap stf) ∧ Ofs (.slice Awt (nw) cwt) g8 ∧ wr.heap[g8]? = some (.stringIter ⟨(l).toArray⟩ (pos)) ∧ Below w.heap.size w wr)
  case atStart => exact ⟨0, 0, [], 0, none, 0, rfl, Nat.zero_le _, Nat.le_refl _, Lib.hid rfl, Nat.le_refl _, rfl, rfl, owk_nil _ _ _, (fun g h => by simp [Value.ownBlock] at h), hit, bel⟩
  case round =>
    clear hit bel
    obtain ⟨pos, fr, ws, nw, Awt, cwt, HGK, hp, hf, HW, hnw, rfl, rfl, wtw, of_wt_it, hit, bel⟩ := hrel
    have HGK_ := Lib.hid HGK
    clear HGK
    have wt := (owk_sle (by decide) stf_len wtw).1
    have fr_wt := (owk_sle (by decide) stf_len wtw).2
    have lz_wt := bel.size
    have wtlo := Nat.le_refl (w.heap.size)
    have av_wt_it := owk_av wtw of_wt_it
    have p0 : (0 : Int) ≤ pos := by omega
    have p1 : (pos : Int) ≤ 100000 := by omega
    have f0 : (0 : Int) ≤ fr := by omega
    have f1 : (fr : Int) ≤ pos := by omega
    by_cases hpl : pos < l.length
    · obtain ⟨r, k, c, hd, hc, hr, hk, hkl, hcase⟩ := rune_bl l pos hpl
      have HD := Lib.hid hd
      have HC := Lib.hid hc
      clear hd hc
      have r0 : (0 : Int) ≤ r := by omega
      have r1 : (r : Int) ≤ 1114111 := by omega
      rcases hcase with ⟨hb, hk1, hbc⟩ | ⟨hb, hbc, h35, hfree⟩
      · have HBL := Lib.hid hb
        have HBC := Lib.hid hbc
        clear hb hbc
        go_wp2_with (first | ((with_reducible show wpList _ _ _ (⟨some 9, _, _, _, _, _⟩ :: _) _ _); refine wpList_next_n rfl (.tmp 8) rfl g8 rfl (l) (pos) hit (r) (k) (HD.out) (hpl) ((pos : Int)) (rfl) ?_; intro w2 hq gr; replace wt := wt.away av_wt_it gr; replace wtw := owk_off wtw of_wt_it gr; replace lz_wt := Nat.le_trans lz_wt gr.size; replace bel := below_grown bel gr oit bel.size; clear hit; have hit := hq; clear hq gr))
        with_reducible refine (isBlank_any _ _).mono ?_
        rintro e _ ⟨rfl, rfl⟩
        rw [HBL.out]
        by_cases hu : fr < pos
        · have R23 := fun W => st_mid (l := l) (i := fr) (j := pos) (by omega) (by omega) W
          go_wp2_with (first | ((with_reducible show wpList _ _ _ (⟨some 24, _, _, _, _, _⟩ :: _) _ _); refine wpList_lit_n rfl 60 9 1 _ rfl #[.string ⟨((l.take pos).drop fr).toArray⟩] (.string ⟨#[]⟩) Tryd.underlying60 (by kernel_rfl) 1 (by kernel_rfl) (by decide) (by kernel_rfl) ?_; intro g24 w3 ge lt hh bb; have d_it_b24 := ne_new (hlt hit) ge; have av_wt_b24 := wt.av_new ge; have of_wt_b24 := owk_new wtw ge; have ob24 := Nat.le_trans bel.size ge; replace hit := blk_u hit bb; replace wt := wt.below bb; replace wtw := owk_under wtw bb; replace lz_wt := Nat.le_trans lz_wt bb.size; replace bel := bel.trans (bb.mono bel.size); have hb24 := hh; clear hh lt ge bb; have lt : Sle stf 1 w3 (some ⟨g24, 0, none⟩) (1) (1) ([(l.take pos).drop fr]) := sle_lit ([(l.take pos).drop fr]) (by decide) stf_len hb24 rfl (by simp [maxLen])) | ((with_reducible show wpList _ _ _ (⟨some 25, _, _, _, _, _⟩ :: _) _ _); refine wpList_append_sle rfl (.tmp 19) (.tmp 24) 60 rfl (w.heap.size) 9 is (.string ⟨#[]⟩) 16 Tryd.underlying60 his his0 his1 his2 rfl stf_one _ (nw) (ws) rfl wtw (some ⟨g24, 0, none⟩) (1) (1) ([(l.take pos).drop fr]) rfl lt (by unfold maxLen; omega) (by omega) lz_wt ?_; intro v25 w4 own_ bb gw ofw; have of25_it := ofw _ (hlt hit) of_wt_it; have of25_b24 := ofw _ (hlt hb24) of_wt_b24; clear ofw; clear lt; replace hit := blk_own hit gw of_wt_it; replace hb24 := blk_own hb24 gw of_wt_b24; clear gw; replace bel := bel.trans (bb.mono wtlo); have lz_wz := Nat.le_trans lz_wt bb.size; clear bb; clear wt wtw lz_wt; replace own_ : w4.ownsRow (w.heap.size) 9 1 v25 (nw + 1) ((ws ++ [(l.take pos).drop fr] : List (List UInt8)).flatMap stf) := own_; obtain ⟨A25, c25, rfl⟩ := owk_val own_; have wzw := own_; have wz := (owk_sle (by decide) stf_len own_).1; have fr_wz := (owk_sle (by decide) stf_len own_).2; clear own_; have av_wz_it := owk_av wzw of25_it; have av_wz_b24 := owk_av wzw of25_b24))
          try clear R23
          go_roundg (l.length + 1 - (pos + k))
          case measure => have := HGK_.out; omega
          case rel => exact ⟨pos + k, pos + 1, ws ++ [(l.take pos).drop fr], nw + 1, A25, c25, rfl, hkl, by omega, Lib.hid (by subst hk1; have h := words_blank HW.out HC.out HBC.out; rw [if_neg (piece_some hp hu)] at h; exact h), by omega, rfl, by go_num, wzw, of25_it, hit, bel⟩
        · have hu2 : decide (fr < pos) = false := decide_eq_false hu
          go_wp2_with fail
          go_roundg (l.length + 1 - (pos + k))
          case measure => have := HGK_.out; omega
          case rel => exact ⟨pos + k, pos + 1, ws, nw, Awt, cwt, rfl, hkl, by omega, Lib.hid (by subst hk1; have h := words_blank HW.out HC.out HBC.out; rw [if_pos (piece_nil hp hu)] at h; exact h), by omega, rfl, by go_num, wtw, of_wt_it, hit, bel⟩
      · have HBL := Lib.hid hb
        have HF := Lib.hid hfree
        clear hb hbc h35 hfree
        go_wp2_with (first | ((with_reducible show wpList _ _ _ (⟨some 9, _, _, _, _, _⟩ :: _) _ _); refine wpList_next_n rfl (.tmp 8) rfl g8 rfl (l) (pos) hit (r) (k) (HD.out) (hpl) ((pos : Int)) (rfl) ?_; intro w2 hq gr; replace wt := wt.away av_wt_it gr; replace wtw := owk_off wtw of_wt_it gr; replace lz_wt := Nat.le_trans lz_wt gr.size; replace bel := below_grown bel gr oit bel.size; clear hit; have hit := hq; clear hq gr))
        with_reducible refine (isBlank_any _ _).mono ?_
        rintro e _ ⟨rfl, rfl⟩
        rw [HBL.out]
        go_wp2_with fail
        go_roundg (l.length + 1 - (pos + k))
        case measure => have := HGK_.out; omega
        case rel => exact ⟨pos + k, fr, ws, nw, Awt, cwt, rfl, hkl, by omega, Lib.hid (words_skip HW.out hf hkl HF.out), by omega, rfl, by go_num, wtw, of_wt_it, hit, bel⟩
    · have hpe : pos = l.length := by omega
      subst hpe
      have HWE := Lib.hid (words_end HW.out)
      clear HW
      by_cases hu : fr < l.length
      · have HP : Hid (ws ++ [l.drop fr] = wordsL l) := Lib.hid (by have h := HWE.out; rw [if_neg (drop_some hu)] at h; exact h)
        have R9 := fun ty => next_end (P := Tryd.prog) ty hit (hpl)
        have R30 := fun W => st_len l 3 W
        have R35 := fun W => st_from (l := l) (i := fr) (by omega) W
        go_wp2_with (first | ((with_reducible show wpList _ _ _ (⟨some 36, _, _, _, _, _⟩ :: _) _ _); refine wpList_lit_n rfl 60 9 1 _ rfl #[.string ⟨(l.drop fr).toArray⟩] (.string ⟨#[]⟩) Tryd.underlying60 (by kernel_rfl) 1 (by kernel_rfl) (by decide) (by kernel_rfl) ?_; intro g36 w2 ge lt hh bb; have d_it_b36 := ne_new (hlt hit) ge; have av_wt_b36 := wt.av_new ge; have of_wt_b36 := owk_new wtw ge; have ob36 := Nat.le_trans bel.size ge; replace hit := blk_u hit bb; replace wt := wt.below bb; replace wtw := owk_under wtw bb; replace lz_wt := Nat.le_trans lz_wt bb.size; replace bel := bel.trans (bb.mono bel.size); have hb36 := hh; clear hh lt ge bb; have lu : Sle stf 1 w2 (some ⟨g36, 0, none⟩) (1) (1) ([l.drop fr]) := sle_lit ([l.drop fr]) (by decide) stf_len hb36 rfl (by simp [maxLen])) | ((with_reducible show wpList _ _ _ (⟨some 37, _, _, _, _, _⟩ :: _) _ _); refine wpList_append_sle rfl (.tmp 32) (.tmp 36) 60 rfl (w.heap.size) 9 is (.string ⟨#[]⟩) 16 Tryd.underlying60 his his0 his1 his2 rfl stf_one _ (nw) (ws) rfl wtw (some ⟨g36, 0, none⟩) (1) (1) ([l.drop fr]) rfl lu (by unfold maxLen; omega) (by omega) lz_wt ?_; intro v37 w3 own_ bb gw ofw; have of37_it := ofw _ (hlt hit) of_wt_it; have of37_b36 := ofw _ (hlt hb36) of_wt_b36; clear ofw; clear lu; replace hit := blk_own hit gw of_wt_it; replace hb36 := blk_own hb36 gw of_wt_b36; clear gw; replace bel := bel.trans (bb.mono wtlo); have lz_wy := Nat.le_trans lz_wt bb.size; clear bb; clear wt wtw lz_wt; replace own_ : w3.ownsRow (w.heap.size) 9 1 v37 (nw + 1) ((ws ++ [l.drop fr] : List (List UInt8)).flatMap stf) := own_; obtain ⟨A37, c37, rfl⟩ := owk_val own_; have wyw := own_; have wy := (owk_sle (by decide) stf_len own_).1; have fr_wy := (owk_sle (by decide) stf_len own_).2; clear own_; have av_wy_it := owk_av wyw of37_it; have av_wy_b36 := owk_av wyw of37_b36))
        try clear R9
        try clear R30
        try clear R35
        go_ret
        exact ⟨_, rfl, by rw [HP.out] at wyw; have hl := wy.1; rw [HP.out] at hl; rw [hl]; exact wyw, bel⟩
      · have hu2 : decide (fr < l.length) = false := decide_eq_false hu
        have HP : Hid (ws = wordsL l) := Lib.hid (by have h := HWE.out; rw [if_pos (drop_none hu)] at h; exact h)
        have R9 := fun ty => next_end (P := Tryd.prog) ty hit (hpl)
        have R30 := fun W => st_len l 3 W
        go_wp2_with fail
        clear R9 R30
        go_ret
        exact ⟨_, rfl, by rw [HP.out] at wtw; have hl := wt.1; rw [HP.out] at hl; rw [hl]; exact wtw, bel⟩
set_option linter.unusedVariables false in
set_option maxRecDepth 100000 in
set_option maxHeartbeats 16000000 in
theorem linesOf_any (l : List UInt8) (w : World) (hlen : l.length ≤ 100000) : Calls Tryd.prog 23 #[.string ⟨l.toArray⟩] w fun e w' => ∃ v, e = .returned v ∧ w'.ownsRow w.heap.size 9 1 v (linesL l).length ((linesL l).flatMap stf) ∧ Below w.heap.size w w' := by
  obtain ⟨is, his, his0, his1, his2⟩ := info_parts Tryd.info_str
  have bel := Below.refl w.heap.size w
  go_enter Tryd.func23, Tryd.ntmps23
  go_wp2_with (first | ((with_reducible show wpList _ _ _ (⟨some 8, _, _, _, _, _⟩ :: _) _ _); refine wpList_range_n rfl 9 (.tmp 7) rfl (by kernel_rfl) (l) rfl ?_; intro g8 w1 ge lt hh bb; have oit := Nat.le_trans bel.size ge; replace bel := bel.trans (bb.mono bel.size); have hit := hh; clear hh lt ge bb))
  simp only [Act.put, List.setIfInBounds_toArray, List.set_cons_zero, List.set_cons_succ]
  go_loopg [3, 4] (l.length + 1) (fun gk s3 s4 wr => ∃ pos : Nat, ∃ fr : Nat, ∃ ws : List (List UInt8), ∃ nw : Nat, ∃ (Awt : Option Addr) (cwt : Nat), gk = l.length + 1 - pos ∧ Hid (CutInv 10 l pos fr ws) ∧ fr ≤ pos ∧ pos ≤ l.length ∧ nw ≤ pos ∧ s3 = .slice Awt nw cwt ∧ s4 = .int .i64 (fr : Int) ∧ wr.ownsRow (w.heap.size) 9 1 (.slice Awt (nw) cwt) (nw) ((ws : List (List UInt8)).flatMap stf) ∧ Ofs (.slice Awt (nw) cwt) g8 ∧ wr.heap[g8]? = some (.stringIter ⟨(l).toArray⟩ (pos)) ∧ Below w.heap.size w wr)
  case atStart => exact ⟨0, 0, [], 0, none, 0, rfl, Lib.hid (cutInv_start _ _), Nat.le_refl _, Nat.zero_le _, Nat.le_refl _, rfl, rfl, owk_nil _ _ _, (fun g h => by simp [Value.ownBlock] at h), hit, bel⟩
  case round =>
    clear hit bel
    obtain ⟨pos, fr, ws, nw, Awt, cwt, HGK, HI, hf, hp, hnw, rfl, rfl, wtw, of_wt_it, hit, bel⟩ := hrel
    have HGK_ := Lib.hid HGK
    clear HGK
    have wt := (owk_sle (by decide) stf_len wtw).1
    have fr_wt := (owk_sle (by decide) stf_len wtw).2
    have lz_wt := bel.size
    have wtlo := Nat.le_refl (w.heap.size)
    have av_wt_it := owk_av wtw of_wt_it
    have p0 : (0 : Int) ≤ pos := by omega
    have p1 : (pos : Int) ≤ 100000 := by omega
    have f0 : (0 : Int) ≤ fr := by omega
    have f1 : (fr : Int) ≤ pos := by omega
    by_cases hpl : pos < l.length
    · obtain ⟨r, k, hd, hr, hk, hkl, hcase⟩ := rune_sep 10 (by decide) l pos hpl
      rw [show (((10 : UInt8).toNat : Nat) : Int) = 10 from rfl] at hcase
      have HD := Lib.hid hd
      clear hd
      have r0 : (0 : Int) ≤ r := by omega
      have r1 : (r : Int) ≤ 1114111 := by omega
      rcases hcase with ⟨hq, hk1, hc⟩ | ⟨hq, hfree⟩
      · have HCC := Lib.hid hc
        clear hc
        go_wp2_with (first | ((with_reducible show wpList _ _ _ (⟨some 9, _, _, _, _, _⟩ :: _) _ _); refine wpList_next_n rfl (.tmp 8) rfl g8 rfl (l) (pos) hit (r) (k) (HD.out) (hpl) ((pos : Int)) (rfl) ?_; intro w2 hq gr; replace wt := wt.away av_wt_it gr; replace wtw := owk_off wtw of_wt_it gr; replace lz_wt := Nat.le_trans lz_wt gr.size; replace bel := below_grown bel gr oit bel.size; clear hit; have hit := hq; clear hq gr; have R19 := fun W => st_mid (l := l) (i := fr) (j := pos) (by omega) (by omega) W) | ((with_reducible show wpList _ _ _ (⟨some 20, _, _, _, _, _⟩ :: _) _ _); refine wpList_lit_n rfl 60 9 1 _ rfl #[.string ⟨((l.take pos).drop fr).toArray⟩] (.string ⟨#[]⟩) Tryd.underlying60 (by kernel_rfl) 1 (by kernel_rfl) (by decide) (by kernel_rfl) ?_; intro g20 w3 ge lt hh bb; have d_it_b20 := ne_new (hlt hit) ge; have av_wt_b20 := wt.av_new ge; have of_wt_b20 := owk_new wtw ge; have ob20 := Nat.le_trans bel.size ge; replace hit := blk_u hit bb; replace wt := wt.below bb; replace wtw := owk_under wtw bb; replace lz_wt := Nat.le_trans lz_wt bb.size; replace bel := bel.trans (bb.mono bel.size); have hb20 := hh; clear hh lt ge bb; have lt : Sle stf 1 w3 (some ⟨g20, 0, none⟩) (1) (1) ([(l.take pos).drop fr]) := sle_lit ([(l.take pos).drop fr]) (by decide) stf_len hb20 rfl (by simp [maxLen])) | ((with_reducible show wpList _ _ _ (⟨some 21, _, _, _, _, _⟩ :: _) _ _); refine wpList_append_sle rfl (.tmp 15) (.tmp 20) 60 rfl (w.heap.size) 9 is (.string ⟨#[]⟩) 16 Tryd.underlying60 his his0 his1 his2 rfl stf_one _ (nw) (ws) rfl wtw (some ⟨g20, 0, none⟩) (1) (1) ([(l.take pos).drop fr]) rfl lt (by unfold maxLen; omega) (by omega) lz_wt ?_; intro v21 w4 own_ bb gw ofw; have of21_it := ofw _ (hlt hit) of_wt_it; have of21_b20 := ofw _ (hlt hb20) of_wt_b20; clear ofw; clear lt; replace hit := blk_own hit gw of_wt_it; replace hb20 := blk_own hb20 gw of_wt_b20; clear gw; replace bel := bel.trans (bb.mono wtlo); have lz_wz := Nat.le_trans lz_wt bb.size; clear bb; clear wt wtw lz_wt; replace own_ : w4.ownsRow (w.heap.size) 9 1 v21 (nw + 1) ((ws ++ [(l.take pos).drop fr] : List (List UInt8)).flatMap stf) := own_; obtain ⟨A21, c21, rfl⟩ := owk_val own_; have wzw := own_; have wz := (owk_sle (by decide) stf_len own_).1; have fr_wz := (owk_sle (by decide) stf_len own_).2; clear own_; have av_wz_it := owk_av wzw of21_it; have av_wz_b20 := owk_av wzw of21_b20))
        try clear R19
        go_roundg (l.length + 1 - (pos + k))
        case measure => have := HGK_.out; omega
        case rel => exact ⟨pos + k, pos + 1, ws ++ [(l.take pos).drop fr], nw + 1, A21, c21, rfl, Lib.hid (by subst hk1; exact cutInv_sep HI.out HCC.out), by omega, hkl, by omega, rfl, by go_num, wzw, of21_it, hit, bel⟩
      · have HF := Lib.hid hfree
        clear hfree
        go_wp2_with (first | ((with_reducible show wpList _ _ _ (⟨some 9, _, _, _, _, _⟩ :: _) _ _); refine wpList_next_n rfl (.tmp 8) rfl g8 rfl (l) (pos) hit (r) (k) (HD.out) (hpl) ((pos : Int)) (rfl) ?_; intro w2 hq gr; replace wt := wt.away av_wt_it gr; replace wtw := owk_off wtw of_wt_it gr; replace lz_wt := Nat.le_trans lz_wt gr.size; replace bel := below_grown bel gr oit bel.size; clear hit; have hit := hq; clear hq gr))
        go_roundg (l.length + 1 - (pos + k))
        case measure => have := HGK_.out; omega
        case rel => exact ⟨pos + k, fr, ws, nw, Awt, cwt, rfl, Lib.hid (cutInv_skip HI.out k hkl (free_get hkl HF.out)), by omega, hkl, by omega, rfl, by go_num, wtw, of_wt_it, hit, bel⟩
    · have hpe : pos = l.length := by omega
      subst hpe
      have HLE := Lib.hid (lines_of (cutInv_end HI.out) (by omega))
      clear HI
      by_cases hu : fr < l.length
      · have HP : Hid (linesL l = ws ++ [l.drop fr]) := Lib.hid (by rw [HLE.out, if_pos hu])
        have R9 := fun ty => next_end (P := Tryd.prog) ty hit (hpl)
        have R26 := fun W => st_len l 3 W
        have R31 := fun W => st_from (l := l) (i := fr) (by omega) W
        go_wp2_with (first | ((with_reducible show wpList _ _ _ (⟨some 32, _, _, _, _, _⟩ :: _) _ _); refine wpList_lit_n rfl 60 9 1 _ rfl #[.string ⟨(l.drop fr).toArray⟩] (.string ⟨#[]⟩) Tryd.underlying60 (by kernel_rfl) 1 (by kernel_rfl) (by decide) (by kernel_rfl) ?_; intro g32 w2 ge lt hh bb; have d_it_b32 := ne_new (hlt hit) ge; have av_wt_b32 := wt.av_new ge; have of_wt_b32 := owk_new wtw ge; have ob32 := Nat.le_trans bel.size ge; replace hit := blk_u hit bb; replace wt := wt.below bb; replace wtw := owk_under wtw bb; replace lz_wt := Nat.le_trans lz_wt bb.size; replace bel := bel.trans (bb.mono bel.size); have hb32 := hh; clear hh lt ge bb; have lu : Sle stf 1 w2 (some ⟨g32, 0, none⟩) (1) (1) ([l.drop fr]) := sle_lit ([l.drop fr]) (by decide) stf_len hb32 rfl (by simp [maxLen])) | ((with_reducible show wpList _ _ _ (⟨some 33, _, _, _, _, _⟩ :: _) _ _); refine wpList_append_sle rfl (.tmp 28) (.tmp 32) 60 rfl (w.heap.size) 9 is (.string ⟨#[]⟩) 16 Tryd.underlying60 his his0 his1 his2 rfl stf_one _ (nw) (ws) rfl wtw (some ⟨g32, 0, none⟩) (1) (1) ([l.drop fr]) rfl lu (by unfold maxLen; omega) (by omega) lz_wt ?_; intro v33 w3 own_ bb gw ofw; have of33_it := ofw _ (hlt hit) of_wt_it; have of33_b32 := ofw _ (hlt hb32) of_wt_b32; clear ofw; clear lu; replace hit := blk_own hit gw of_wt_it; replace hb32 := blk_own hb32 gw of_wt_b32; clear gw; replace bel := bel.trans (bb.mono wtlo); have lz_wy := Nat.le_trans lz_wt bb.size; clear bb; clear wt wtw lz_wt; replace own_ : w3.ownsRow (w.heap.size) 9 1 v33 (nw + 1) ((ws ++ [l.drop fr] : List (List UInt8)).flatMap stf) := own_; obtain ⟨A33, c33, rfl⟩ := owk_val own_; have wyw := own_; have wy := (owk_sle (by decide) stf_len own_).1; have fr_wy := (owk_sle (by decide) stf_len own_).2; clear own_; have av_wy_it := owk_av wyw of33_it; have av_wy_b32 := owk_av wyw of33_b32))
        try clear R9
        try clear R26
        try clear R31
        go_ret
        exact ⟨_, rfl, by rw [← HP.out] at wyw; have hl := wy.1; rw [← HP.out] at hl; rw [hl]; exact wyw, bel⟩
      · have hu2 : decide (fr < l.length) = false := decide_eq_false hu
        have HP : Hid (linesL l = ws) := Lib.hid (by rw [HLE.out, if_neg hu])
        have R9 := fun ty => next_end (P := Tryd.prog) ty hit (hpl)
        have R26 := fun W => st_len l 3 W
        go_wp2_with fail
        clear R9 R26
        go_ret
        exact ⟨_, rfl, by rw [← HP.out] at wtw; have hl := wt.1; rw [← HP.out] at hl; rw [hl]; exact wtw, bel⟩
open Go.RowKit

theorem hexI_ok {c : UInt8} (h : 0 ≤ hexI c) : (48 ≤ c.toNat ∧ c.toNat ≤ 57 ∧ hexI c = (c.toNat : Int) - 48) ∨ (97 ≤ c.toNat ∧ c.toNat ≤ 102 ∧ hexI c = (c.toNat : Int) - 97 + 10) ∨ (65 ≤ c.toNat ∧ c.toNat ≤ 70 ∧ hexI c = (c.toNat : Int) - 65 + 10) := by
  unfold hexI at h ⊢
  split at h
  · exact .inl ⟨by omega, by omega, by rw [if_pos (by omega)]⟩
  · split at h
    · exact .inr (.inl ⟨by omega, by omega, by rw [if_neg (by omega), if_pos (by omega)]⟩)
    · split at h
      · exact .inr (.inr ⟨by omega, by omega, by rw [if_neg (by omega), if_neg (by omega), if_pos (by omega)]⟩)
      · omega
theorem hexI_no {c : UInt8} (h : hexI c < 0) : ¬ (48 ≤ c.toNat ∧ c.toNat ≤ 57) ∧ ¬ (97 ≤ c.toNat ∧ c.toNat ≤ 102) ∧ ¬ (65 ≤ c.toNat ∧ c.toNat ≤ 70) := by
  unfold hexI at h
  split at h
  · omega
  · split at h
    · omega
    · split at h
      · omega
      · exact ⟨by assumption, by assumption, by assumption⟩

set_option maxRecDepth 100000 in
theorem hexDigit_ok (c : UInt8) (h : 0 ≤ hexI c) (w : World) : Calls Tryd.prog 99 #[.int .i32 (c.toNat : Int)] w fun e w' => e = .returned (.tuple #[.int .u8 (hexI c), .bool true]) ∧ w = w' := by
  rcases hexI_ok h with ⟨h1, h2, e⟩ | ⟨h1, h2, e⟩ | ⟨h1, h2, e⟩
  · rw [e]
    have t1 : (48 : Int) ≤ c.toNat := by omega
    have t2 : (c.toNat : Int) ≤ 57 := by omega
    clear e h
    go_enter Tryd.func99, Tryd.ntmps99
    go_wp2
    go_ret2
    exact ⟨rfl, rfl⟩
  · rw [e]
    have t1 : (97 : Int) ≤ c.toNat := by omega
    have t2 : (c.toNat : Int) ≤ 102 := by omega
    have t3 : (48 : Int) ≤ c.toNat := by omega
    have t4 : decide ((c.toNat : Int) ≤ 57) = false := decide_eq_false (by omega)
    clear e h
    go_enter Tryd.func99, Tryd.ntmps99
    go_wp2
    go_ret2
    exact ⟨rfl, rfl⟩
  · rw [e]
    have t1 : (65 : Int) ≤ c.toNat := by omega
    have t2 : (c.toNat : Int) ≤ 70 := by omega
    have t3 : (48 : Int) ≤ c.toNat := by omega
    have t4 : decide ((c.toNat : Int) ≤ 57) = false := decide_eq_false (by omega)
    have t5 : decide ((97 : Int) ≤ c.toNat) = false := decide_eq_false (by omega)
    clear e h
    go_enter Tryd.func99, Tryd.ntmps99
    go_wp2
    go_ret2
    exact ⟨rfl, rfl⟩

set_option maxRecDepth 100000 in
theorem hexDigit_no (r : Nat) (hr : r ≤ 1114111) (h : ¬ (48 ≤ r ∧ r ≤ 57) ∧ ¬ (97 ≤ r ∧ r ≤ 102) ∧ ¬ (65 ≤ r ∧ r ≤ 70)) (w : World) : Calls Tryd.prog 99 #[.int .i32 (r : Int)] w fun e w' => e = .returned (.tuple #[.int .u8 0, .bool false]) ∧ w = w' := by
  have r1 : (r : Int) ≤ 1114111 := by omega
  have r0 : (0 : Int) ≤ r := by omega
  rcases (by omega : r < 48 ∨ (57 < r ∧ r < 65) ∨ (70 < r ∧ r < 97) ∨ 102 < r) with k | ⟨k1, k2⟩ | ⟨k1, k2⟩ | k
  · have t1 : decide ((48 : Int) ≤ r) = false := decide_eq_false (by omega)
    have t2 : decide ((97 : Int) ≤ r) = false := decide_eq_false (by omega)
    have t3 : decide ((65 : Int) ≤ r) = false := decide_eq_false (by omega)
    clear h
    go_enter Tryd.func99, Tryd.ntmps99
    go_wp2
    go_ret2
    exact ⟨rfl, rfl⟩
  · have t1 : (48 : Int) ≤ r := by omega
    have t2 : decide ((r : Int) ≤ 57) = false := decide_eq_false (by omega)
    have t3 : decide ((97 : Int) ≤ r) = false := decide_eq_false (by omega)
    have t4 : decide ((65 : Int) ≤ r) = false := decide_eq_false (by omega)
    clear h
    go_enter Tryd.func99, Tryd.ntmps99
    go_wp2
    go_ret2
    exact ⟨rfl, rfl⟩
  · have t1 : (48 : Int) ≤ r := by omega
    have t2 : decide ((r : Int) ≤ 57) = false := decide_eq_false (by omega)
    have t3 : decide ((97 : Int) ≤ r) = false := decide_eq_false (by omega)
    have t4 : (65 : Int) ≤ r := by omega
    have t5 : decide ((r : Int) ≤ 70) = false := decide_eq_false (by omega)
    clear h
    go_enter Tryd.func99, Tryd.ntmps99
    go_wp2
    go_ret2
    exact ⟨rfl, rfl⟩
  · have t1 : (48 : Int) ≤ r := by omega
    have t2 : decide ((r : Int) ≤ 57) = false := decide_eq_false (by omega)
    have t3 : (97 : Int) ≤ r := by omega
    have t4 : decide ((r : Int) ≤ 102) = false := decide_eq_false (by omega)
    have t5 : (65 : Int) ≤ r := by omega
    have t6 : decide ((r : Int) ≤ 70) = false := decide_eq_false (by omega)
    clear h
    go_enter Tryd.func99, Tryd.ntmps99
    go_wp2
    go_ret2
    exact ⟨rfl, rfl⟩

theorem hex_rune (s : ByteArray) (pos : Nat) (h : pos < s.size) :
    (0 ≤ hexI (s[pos]'h) ∧ Utf8.decode s pos = ((s[pos]'h).toNat, 1)) ∨ (hexI (s[pos]'h) < 0 ∧ ∃ r k, Utf8.decode s pos = (r, k) ∧ r ≤ 1114111 ∧ ¬ (48 ≤ r ∧ r ≤ 57) ∧ ¬ (97 ≤ r ∧ r ≤ 102) ∧ ¬ (65 ≤ r ∧ r ≤ 70)) := by
  by_cases ha : (s[pos]'h).toNat < 128
  · have hd := decode_ascii s pos h ha
    by_cases hx : 0 ≤ hexI (s[pos]'h)
    · exact .inl ⟨hx, hd⟩
    · have hn := hexI_no (c := s[pos]'h) (by omega)
      exact .inr ⟨by omega, _, _, hd, by omega, hn.1, hn.2.1, hn.2.2⟩
  · obtain ⟨h1, h2, h3, _, _⟩ := rune_hi s pos h (by omega)
    refine .inr ⟨?_, (Utf8.decode s pos).1, (Utf8.decode s pos).2, rfl, h2, ?_⟩
    · have : ¬ 0 ≤ hexI (s[pos]'h) := fun h0 => by rcases hexI_ok h0 with h | h | h <;> omega
      omega
    · generalize (Utf8.decode s pos).1 = r at *
      omega

theorem hexPair_len (s : ByteArray) (h : s.size ≠ 2) (w : World) : Calls Tryd.prog 93 #[.string s] w fun e w' => e = .returned (.tuple #[.int .u8 0, .bool false]) ∧ Below w.heap.size w w' := by
  have t1 : ((s.size : Int) == 2) = false := beq_eq_false_iff_ne.2 (by omega)
  have t2 : ((s.size : Int) != 2) = true := by rw [bne, t1]; rfl
  clear h
  go_enter Tryd.func93, Tryd.ntmps93
  go_wp2
  go_ret2
  exact ⟨rfl, Below.refl _ _⟩

theorem or_u8_16 : ∀ a b : Fin 16, bits .or .u8 (IntKind.u8.wrap ((a.val : Int) * 16)) (b.val : Int) = ((a.val * 16 + b.val : Nat) : Int) := by decide +kernel

set_option maxRecDepth 100000 in
set_option maxHeartbeats 2000000 in
theorem hexPair_no (s : ByteArray) (h : s.size = 2) (hn : hexI (s[0]'(by omega)) < 0 ∨ hexI (s[1]'(by omega)) < 0) (w : World) : Calls Tryd.prog 93 #[.string s] w fun e w' => e = .returned (.tuple #[.int .u8 0, .bool false]) ∧ Below w.heap.size w w' := by
  have t1 : ((s.size : Int) == 2) = true := beq_iff_eq.2 (by omega)
  have t2 : ((s.size : Int) != 2) = false := by rw [bne, t1]; rfl
  have bel : ∀ p, Below w.heap.size w (w.iter s p) := fun p => (Below.refl _ _).alloc (Nat.le_refl _) _
  have nx := fun ty pos hp => run_next_any (P := Tryd.prog) w s pos ty hp
  rcases hex_rune s 0 (by omega) with ⟨h0, d0⟩ | ⟨h0, r, k, d0, hr, hno⟩
  · rcases hex_rune s 1 (by omega) with ⟨h1, d1⟩ | ⟨h1, r, k, d1, hr, hno⟩
    · omega
    have n0 : ∀ ty, (Instr.next (.pointer (some ⟨w.heap.size, 0, none⟩)) true ty).run Tryd.prog (w.iter s 0) = .ok (.tuple #[.bool true, .int .i64 0, .int .i32 ((s[0]'(by omega)).toNat : Int)]) (w.iter s 1) := fun ty => by
      have := nx ty 0 (by omega); rw [d0] at this; exact this
    have n1 : ∀ ty, (Instr.next (.pointer (some ⟨w.heap.size, 0, none⟩)) true ty).run Tryd.prog (w.iter s 1) = .ok (.tuple #[.bool true, .int .i64 1, .int .i32 r]) (w.iter s (1 + k)) := fun ty => by
      have := nx ty 1 (by omega); rw [d1] at this; exact this
    have hr0 := hexI_range (s[0]'(by omega))
    have HD0 := Lib.hid (fun W => hexDigit_ok _ h0 W)
    have HD := Lib.hid (fun W => hexDigit_no r hr hno W)
    have H := Lib.hid h
    obtain ⟨c, hc⟩ : ∃ c, s[0]'(by omega) = c := ⟨_, rfl⟩
    rw [hc] at n0 h0 HD0 hr0
    have x0 : 0 ≤ hexI c := h0
    have x1 : hexI c ≤ 15 := by omega
    generalize hexI c = x at *
    clear nx d0 d1 hn h1 h hno hc hr0 h0
    go_enter Tryd.func93, Tryd.ntmps93
    go_wp2
    refine wp_loop_rounds 3 ?_
    rw [rounds_succ]
    go_wp2_with fail
    with_reducible refine (HD0.out _).mono ?_
    rintro e w2 ⟨rfl, rfl⟩
    go_wp2_with fail
    rw [rounds_succ]
    go_wp2_with fail
    with_reducible refine (HD.out _).mono ?_
    rintro e w2 ⟨rfl, rfl⟩
    go_wp2
    go_ret2
    exact ⟨rfl, bel _⟩
  · have n0 : ∀ ty, (Instr.next (.pointer (some ⟨w.heap.size, 0, none⟩)) true ty).run Tryd.prog (w.iter s 0) = .ok (.tuple #[.bool true, .int .i64 0, .int .i32 r]) (w.iter s (0 + k)) := fun ty => by
      have := nx ty 0 (by omega); rw [d0] at this; exact this
    clear nx d0 hn h0
    have HD := Lib.hid (fun W => hexDigit_no r hr hno W)
    have H := Lib.hid h
    clear h hno
    go_enter Tryd.func93, Tryd.ntmps93
    go_wp2
    refine wp_loop_rounds 3 ?_
    rw [rounds_succ]
    go_wp2_with fail
    with_reducible refine (HD.out _).mono ?_
    rintro e w2 ⟨rfl, rfl⟩
    go_wp2
    go_ret2
    exact ⟨rfl, bel _⟩

set_option maxRecDepth 100000 in
set_option maxHeartbeats 2000000 in
theorem hexPair_ok (s : ByteArray) (h : s.size = 2) (h0 : 0 ≤ hexI (s[0]'(by omega))) (h1 : 0 ≤ hexI (s[1]'(by omega))) (w : World) : Calls Tryd.prog 93 #[.string s] w fun e w' => e = .returned (.tuple #[.int .u8 (16 * hexI (s[0]'(by omega)) + hexI (s[1]'(by omega))), .bool true]) ∧ Below w.heap.size w w' := by
  have t1 : ((s.size : Int) == 2) = true := beq_iff_eq.2 (by omega)
  have t2 : ((s.size : Int) != 2) = false := by rw [bne, t1]; rfl
  have bel : ∀ p, Below w.heap.size w (w.iter s p) := fun p => (Below.refl _ _).alloc (Nat.le_refl _) _
  have nx := fun ty pos hp => run_next_any (P := Tryd.prog) w s pos ty hp
  rcases hex_rune s 0 (by omega) with ⟨g0, d0⟩ | ⟨k0, _⟩
  rotate_left
  · omega
  rcases hex_rune s 1 (by omega) with ⟨g1, d1⟩ | ⟨k1, _⟩
  rotate_left
  · omega
  have n0 : ∀ ty, (Instr.next (.pointer (some ⟨w.heap.size, 0, none⟩)) true ty).run Tryd.prog (w.iter s 0) = .ok (.tuple #[.bool true, .int .i64 0, .int .i32 ((s[0]'(by omega)).toNat : Int)]) (w.iter s 1) := fun ty => by
    have := nx ty 0 (by omega); rw [d0] at this; exact this
  have n1 : ∀ ty, (Instr.next (.pointer (some ⟨w.heap.size, 0, none⟩)) true ty).run Tryd.prog (w.iter s 1) = .ok (.tuple #[.bool true, .int .i64 1, .int .i32 ((s[1]'(by omega)).toNat : Int)]) (w.iter s 2) := fun ty => by
    have := nx ty 1 (by omega); rw [d1] at this; exact this
  have n2 : ∀ ty, (Instr.next (.pointer (some ⟨w.heap.size, 0, none⟩)) true ty).run Tryd.prog (w.iter s 2) = .ok (.tuple #[.bool false]) (w.iter s 2) := fun ty => run_next_end w s 2 ty (by omega)
  have hr0 := hexI_range (s[0]'(by omega))
  have hr1 := hexI_range (s[1]'(by omega))
  have HD0 := Lib.hid (fun W => hexDigit_ok _ h0 W)
  have HD1 := Lib.hid (fun W => hexDigit_ok _ h1 W)
  obtain ⟨c, hc⟩ : ∃ c, s[0]'(by omega) = c := ⟨_, rfl⟩
  obtain ⟨d, hd⟩ : ∃ d, s[1]'(by omega) = d := ⟨_, rfl⟩
  rw [hc] at n0 h0 HD0 hr0
  rw [hd] at n1 h1 HD1 hr1
  rw [hc, hd]
  have x0 : 0 ≤ hexI c := h0
  have x1 : hexI c ≤ 15 := by omega
  have y0 : 0 ≤ hexI d := h1
  have y1 : hexI d ≤ 15 := by omega
  have hor : bits .or .u8 (hexI c * 16) (hexI d) = 16 * hexI c + hexI d := by
    have := or_u8_16 ⟨(hexI c).toNat, by omega⟩ ⟨(hexI d).toNat, by omega⟩
    simp only [Int.toNat_of_nonneg x0, Int.toNat_of_nonneg y0] at this
    rw [show IntKind.u8.wrap (hexI c * 16) = hexI c * 16 by simp [IntKind.wrap, IntKind.signed, IntKind.bits]; omega] at this
    rw [this]; omega
  have hor0 : bits .or .u8 0 (hexI c) = hexI c := by
    have := or_u8_16 ⟨0, by omega⟩ ⟨(hexI c).toNat, by omega⟩
    simp only [Int.toNat_of_nonneg x0] at this
    rw [show IntKind.u8.wrap ((((0 : Nat) : Int)) * 16) = 0 by decide] at this
    rw [this]; omega
  generalize hexI c = x at *
  generalize hexI d = y at *
  have H := Lib.hid h
  clear nx d0 d1 h1 g0 g1 h hc hd hr0 hr1 h0
  go_enter Tryd.func93, Tryd.ntmps93
  go_wp2
  refine wp_loop_rounds 3 ?_
  rw [rounds_succ]
  go_wp2_with fail
  with_reducible refine (HD0.out _).mono ?_
  rintro e w2 ⟨rfl, rfl⟩
  go_wp2_with fail
  rw [rounds_succ]
  go_wp2_with fail
  with_reducible refine (HD1.out _).mono ?_
  rintro e w2 ⟨rfl, rfl⟩
  go_wp2_with fail
  rw [rounds_succ]
  go_wp2
  go_ret2
  exact ⟨rfl, bel _⟩
open Go.RowKit

theorem sep_rune (s : ByteArray) (pos : Nat) (h : pos < s.size) (b : UInt8) (hb : b.toNat < 128) :
    (s.data.toList[pos]? = some b ∧ Utf8.decode s pos = (b.toNat, 1)) ∨
    (∃ r k, Utf8.decode s pos = (r, k) ∧ r ≤ 1114111 ∧ r ≠ b.toNat ∧ 1 ≤ k ∧ pos + k ≤ s.size ∧ ∀ j, j < k → s.data.toList.getD (pos + j) 0 ≠ b) := by
  by_cases ha : (s[pos]'h).toNat < 128
  · have hd := decode_ascii s pos h ha
    by_cases hx : s[pos]'h = b
    · exact .inl ⟨by rw [get?_at s pos h, hx], by rw [hd, hx]⟩
    · refine .inr ⟨_, _, hd, by omega, fun e => hx (UInt8.toNat_inj.1 e), Nat.le_refl _, by omega, fun j hj => ?_⟩
      obtain rfl : j = 0 := by omega
      rw [Nat.add_zero, getD_at s pos h]; exact hx
  · obtain ⟨h1, h2, h3, h4, h5⟩ := rune_hi s pos h (by omega)
    refine .inr ⟨(Utf8.decode s pos).1, (Utf8.decode s pos).2, rfl, h2, fun e => by omega, h3, h4, fun j hj e => ?_⟩
    have := h5 j hj
    rw [e] at this
    omega

theorem own_slice {w : World} {base : Nat} {e : TypeId} {size : Nat} {v : Value} {n : Nat} {xs : List Value} (h : w.ownsRow base e size v n xs) : ∃ A cap, v = .slice A n cap := by
  rcases h.2 with ⟨rfl, rfl⟩ | ⟨g, cap, _, rfl, _⟩
  · exact ⟨_, _, rfl⟩
  · exact ⟨_, _, rfl⟩
theorem own_iterAt {w : World} {base : Nat} {e : TypeId} {size : Nat} {v : Value} {n : Nat} {xs : List Value} (h : w.ownsRow base e size v n xs) {k : Nat} {s : ByteArray} {pos : Nat} (hk : w.heap[k]? = some (.stringIter s pos)) (pos' : Nat) : (w.iterAt k s pos').ownsRow base e size v n xs := by
  refine ⟨h.1, ?_⟩
  rcases h.2 with hn | ⟨g, cap, cur, hv, hbg, hg, rest⟩
  · exact .inl hn
  · have hkg : g ≠ k := by
      intro e1
      rw [e1, hk] at hg
      cases hg
    exact .inr ⟨g, cap, cur, hv, hbg, (Lib.iterAt_other w k g s pos' hkg).trans hg, rest⟩
/-- An iterator stays behind what writes a row of the call's own. -/
theorem iter_grown {w w' : World} {base : Nat} {e : TypeId} {size : Nat} {v : Value} {n : Nat} {xs : List Value} (h : w.ownsRow base e size v n xs) {k : Nat} {s : ByteArray} {pos : Nat} (hk : w.heap[k]? = some (.stringIter s pos)) (hg : w.grownBy w' v.ownBlock) : w'.heap[k]? = some (.stringIter s pos) := by
  rw [hg.block k (Array.getElem?_eq_some_iff.1 hk).1 ?_, hk]
  intro e1
  rcases h.2 with ⟨rfl, _⟩ | ⟨g, cap, cur, rfl, hbg, hg', rest⟩
  · simp [Value.ownBlock] at e1
  · simp only [Value.ownBlock, Option.some.injEq] at e1
    subst e1
    rw [hk] at hg'
    cases hg'

/-- What split answers: the pieces, if there are just so many. -/
def SpPost (b : UInt8) (l : List UInt8) (m : Nat) (w : World) (e : Ending) (w' : World) : Prop :=
  (if (cutF b l).length = m then ∃ g cap, e = .returned (.tuple #[.slice (some ⟨g, 0, none⟩) m cap, .bool true]) ∧ m ≤ cap ∧ w.heap.size ≤ g ∧ g < w'.heap.size ∧ (∀ (j : Nat) (x : List UInt8), (cutF b l)[j]? = some x → w'.cell? ⟨g, j, none⟩ = some (.string ⟨x.toArray⟩))
   else e = .returned (.tuple #[.slice none 0 0, .bool false])) ∧ Below w.heap.size w w'
theorem spPost_no {b : UInt8} {l : List UInt8} {m : Nat} {w w' : World} (h : (cutF b l).length ≠ m) (hb : Below w.heap.size w w') : SpPost b l m w (.returned (.tuple #[.slice none 0 0, .bool false])) w' := by
  unfold SpPost; rw [if_neg h]; exact ⟨rfl, hb⟩
theorem spPost_yes {b : UInt8} {l : List UInt8} {m : Nat} {w w' : World} {v : Value} (h : (cutF b l).length = m) (hm : 0 < m) (hb : Below w.heap.size w w') (hown : w'.ownsRow w.heap.size 9 1 v m ((cutF b l).map strv)) : SpPost b l m w (.returned (.tuple #[v, .bool true])) w' := by
  unfold SpPost; rw [if_pos h]
  refine ⟨?_, hb⟩
  rcases hown.2 with ⟨_, h0⟩ | ⟨g, cap, _, rfl, hgb, hh, hcap, _⟩
  · omega
  refine ⟨g, cap, rfl, hcap, hgb, (Array.getElem?_eq_some_iff.1 hh).1, fun j x hj => ?_⟩
  have hjl : j < (cutF b l).length := (List.getElem?_eq_some_iff.1 hj).1
  rw [hown.cellAt j (by omega), List.getElem?_map, hj]
  rfl

set_option maxRecDepth 100000 in
set_option maxHeartbeats 4000000 in
theorem asplit_any (s : ByteArray) (b : UInt8) (hb : b.toNat < 128) (m : Nat) (hm : 0 < m) (hm1 : m < 1000) (w : World) (hs : s.size ≤ 140737488355328) :
    Calls Tryd.prog 91 #[.string s, .int .i32 (b.toNat : Int), .int .i64 (m : Int)] w (SpPost b s.data.toList m w) := by
  obtain ⟨i0, hi, hz0, hz1, hz2⟩ := info_parts Tryd.info_str
  have hlen : s.data.toList.length = s.size := by simp
  have HLEN := Lib.hid hlen
  clear hlen
  have s1 : (s.size : Int) ≤ 140737488355328 := by omega
  have hb0 : (0 : Int) ≤ b.toNat := by omega
  have hb1 : (b.toNat : Int) < 128 := by omega
  have m0 : (0 : Int) < m := by omega
  have m1 : (m : Int) < 1000 := by omega
  go_enter Tryd.func91, Tryd.ntmps91
  go_wp2_with (at_make; refine wpList_make_own _ rfl _ _ 60 rfl w.heap.size 9 i0 (.string ⟨#[]⟩) 1 Tryd.underlying60 hi hz0 hz1 .i64 .i64 _ m rfl rfl rfl (by rw [hz2]; omega) (by unfold maxLen; omega) (Nat.le_refl _) ?_; intro w0 hown0 hgrow0; refine Hid.out ?_)
  refine Lib.hid ?_
  have bel0 : Below w.heap.size w w0 := (Below.refl _ _).grown hgrow0 (Nat.le_refl _) (fun k h => by cases h)
  obtain ⟨B, hB⟩ : ∃ B, Hid (B = w.heap.size) := ⟨_, Lib.hid rfl⟩
  obtain ⟨I, hI⟩ : ∃ I, Hid (I = w0.heap.size) := ⟨_, Lib.hid rfl⟩
  go_wp2
  go_loopw [8, 9] (fun p f wr => ∃ (pos start : Nat) (ps : List (List UInt8)) (v0 : Value), v0 = p ∧ f = .int .i64 start ∧ CutInv b s.data.toList pos start ps ∧ ps.length < m ∧ wr.ownsRow w.heap.size 9 1 p ps.length (ps.map strv) ∧ wr.heap[w0.heap.size]? = some (.stringIter s pos) ∧ Below w.heap.size w wr) (fun _ _ wr => s.size - wr.iterPos w0.heap.size)
  case atStart => exact ⟨0, 0, [], _, rfl, rfl, cutInv_start _ _, hm, hown0.alloc _, World.iter_heap _ _ _, bel0.alloc bel0.size _⟩
  case round =>
    obtain ⟨pos, start, ps, v, rfl, rfl, hci, hps, hown, hit, bel⟩ := hrel
    have hsl := hci.1
    have hpl : pos ≤ s.size := by have := hci.2.1; have := HLEN.out; omega
    obtain ⟨A, cap, rfl⟩ := own_slice hown
    have x0 : (0 : Int) ≤ start := by omega
    have x1 : (start : Int) ≤ pos := by omega
    have x2 : (pos : Int) ≤ s.size := by omega
    have y1 : (ps.length : Int) < m := by omega
    have hex := Lib.hid (extract_str s start pos)
    by_cases hlt : pos < s.size
    · have x3 : (pos : Int) < s.size := by omega
      rcases sep_rune s pos hlt b hb with ⟨hat, hd⟩ | ⟨r, k, hd, hr, hne, hk, hkl, hfree⟩
      · have hnx : ∀ ty, (Instr.next (.pointer (some ⟨w0.heap.size, 0, none⟩)) true ty).run Tryd.prog wr = .ok (.tuple #[.bool true, .int .i64 pos, .int .i32 (b.toNat : Int)]) (wr.iterAt w0.heap.size s (pos + 1)) := fun ty => by
          have := Lib.run_next_any_at (P := Tryd.prog) wr w0.heap.size s pos ty hit hlt
          rw [hd] at this; exact this
        by_cases hk : ps.length = m - 1
        · have hno : Hid ((cutF b s.data.toList).length ≠ m) := Lib.hid (by have := cutInv_many hci hat; omega)
          have t1 : ((ps.length : Int) == (m : Int) - 1) = true := beq_iff_eq.2 (by omega)
          have bel2 := Lib.below_iterAt bel (k := w0.heap.size) bel0.size s (pos + 1)
          clear hd hat hci hk hown hown0
          go_wp2
          go_ret2
          exact spPost_no hno.out bel2
        · have t1 : ((ps.length : Int) == (m : Int) - 1) = false := beq_eq_false_iff_ne.2 (by omega)
          have hst := Lib.hid (cutInv_sep hci hat)
          have hown2 := own_iterAt hown hit (pos + 1)
          have hit2 := Lib.iterAt_heap wr w0.heap.size s pos (pos + 1) hit
          have bel2 := Lib.below_iterAt bel (k := w0.heap.size) bel0.size s (pos + 1)
          have hlt2 : ps.length + 1 < m := by omega
          clear hd hat hci hk hown hown0 bel
          go_wp2_with (at_builtin; refine wpList_append_own _ rfl (.tmp 28) (.tmp 33) 60 rfl w.heap.size 9 i0 (.string ⟨#[]⟩) 1 16 Tryd.underlying60 hi hz0 hz1 hz2 rfl (by decide) _ _ _ rfl (hown2.alloc _) ⟨(wr.iterAt w0.heap.size s (pos + 1)).heap.size, 0, none⟩ 1 1 [.string (s.extract start pos)] rfl rfl ?c1 ?c2 ?c3 ?c4 ?c5 ?_)
          case c1 => exact cell_one_new _ _ _
          case c2 => intro u hu; rw [List.mem_singleton.1 hu]; rfl
          case c3 => unfold maxLen; omega
          case c4 => omega
          case c5 => have := bel2.size; simp; omega
          intro v' w1 hown1 hg1 _
          have bel3 : Below w.heap.size w w1 := (bel2.alloc bel2.size _).grown hg1 (by have := bel2.size; simp; omega) (fun k h => (hown2.lt k h).1)
          have hit3 := iter_grown (hown2.alloc _) ((Go.heap_alloc_old _ _ (Array.getElem?_eq_some_iff.1 hit2).1).trans hit2) hg1
          have hown3 : w1.ownsRow w.heap.size 9 1 v' (ps ++ [(s.data.toList.take pos).drop start]).length ((ps ++ [(s.data.toList.take pos).drop start]).map strv) := by
            rw [List.map_append, List.length_append]
            have e : strv ((s.data.toList.take pos).drop start) = .string (s.extract start pos) := by rw [hex.out]; rfl
            rw [List.map_singleton, e]
            exact hown1
          clear hown1 hg1 hown2 hit2 bel2
          go_wp2
          go_roundw
          case rel => exact ⟨pos + 1, pos + 1, _, _, rfl, by go_num, hst.out, by rw [List.length_append]; exact hlt2, hown3, hit3, bel3⟩
          case measure => simp [World.iterPos, hit, hit3]; omega
      · have hnx : ∀ ty, (Instr.next (.pointer (some ⟨w0.heap.size, 0, none⟩)) true ty).run Tryd.prog wr = .ok (.tuple #[.bool true, .int .i64 pos, .int .i32 (r : Int)]) (wr.iterAt w0.heap.size s (pos + k)) := fun ty => by
          have := Lib.run_next_any_at (P := Tryd.prog) wr w0.heap.size s pos ty hit hlt
          rw [hd] at this; exact this
        have r0 : (0 : Int) ≤ r := by omega
        have r1 : (r : Int) ≤ 1114111 := by omega
        have t1 : ((r : Int) == (b.toNat : Int)) = false := beq_eq_false_iff_ne.2 (by omega)
        have t2 : ((r : Int) != (b.toNat : Int)) = true := by rw [bne, t1]; rfl
        have hst := Lib.hid (cutInv_skip hci k (by have := HLEN.out; omega) hfree)
        have hown2 := own_iterAt hown hit (pos + k)
        have hit2 := Lib.iterAt_heap wr w0.heap.size s pos (pos + k) hit
        have bel2 := Lib.below_iterAt bel (k := w0.heap.size) bel0.size s (pos + k)
        clear hd hci hown hown0 bel hne hfree
        go_wp2
        go_roundw
        case rel => exact ⟨pos + k, start, ps, _, rfl, rfl, hst.out, hps, hown2, hit2, bel2⟩
        case measure => simp [World.iterPos, hit, hit2]; omega
    · obtain rfl : pos = s.size := by omega
      have hnx : ∀ ty, (Instr.next (.pointer (some ⟨w0.heap.size, 0, none⟩)) true ty).run Tryd.prog wr = .ok (.tuple #[.bool false]) wr := fun ty => Lib.run_next_end_at wr w0.heap.size s s.size ty hit hlt
      have hend : cutF b s.data.toList = ps ++ [s.data.toList.drop start] := by
        rw [← HLEN.out] at hci; exact cutInv_end hci
      have hex2 := Lib.hid (extract_end s start)
      clear hex
      by_cases hk : ps.length < m - 1
      · have hno : Hid ((cutF b s.data.toList).length ≠ m) := Lib.hid (by rw [hend, List.length_append, List.length_singleton]; omega)
        have t1 : (ps.length : Int) < (m : Int) - 1 := by omega
        clear hend hci hk hown hown0
        go_wp2
        go_ret2
        exact spPost_no hno.out bel
      · have hk1 : ps.length + 1 = m := by omega
        have hyes : Hid ((cutF b s.data.toList).length = m) := Lib.hid (by rw [hend, List.length_append, List.length_singleton]; omega)
        have t1 : decide ((ps.length : Int) < (m : Int) - 1) = false := decide_eq_false (by omega)
        have HEND := Lib.hid hend
        have HK1 := Lib.hid hk1
        clear hend hci hk hown0 hk1
        go_wp2_with (at_builtin; refine wpList_append_own _ rfl (.tmp 42) (.tmp 46) 60 rfl w.heap.size 9 i0 (.string ⟨#[]⟩) 1 16 Tryd.underlying60 hi hz0 hz1 hz2 rfl (by decide) _ _ _ rfl (hown.alloc _) ⟨wr.heap.size, 0, none⟩ 1 1 [.string (s.extract start s.size)] rfl rfl ?d1 ?d2 ?d3 ?d4 ?d5 ?_)
        case d1 => exact cell_one_new _ _ _
        case d2 => intro u hu; rw [List.mem_singleton.1 hu]; rfl
        case d3 => unfold maxLen; omega
        case d4 => omega
        case d5 => have := bel.size; simp; omega
        intro v' w1 hown1 hg1 _
        have bel3 : Below w.heap.size w w1 := (bel.alloc bel.size _).grown hg1 (by have := bel.size; simp; omega) (fun k h => (hown.lt k h).1)
        have hown3 : w1.ownsRow w.heap.size 9 1 v' m ((cutF b s.data.toList).map strv) := by
          rw [HEND.out, List.map_append, ← HK1.out]
          have e : strv (s.data.toList.drop start) = .string (s.extract start s.size) := by rw [hex2.out]; rfl
          rw [List.map_singleton, e]
          exact hown1
        clear hown1 hg1 hown bel
        go_wp2
        go_ret2
        exact spPost_yes hyes.out hm bel3 hown3
open Go.RowKit

/-- An address, as the reference reads it. -/
def parse4 (l : List UInt8) : Option (UInt8 × UInt8 × UInt8 × UInt8) :=
  if 15 < l.length then none else match cutF 46 l with
  | [a, b, c, d] => if 0 ≤ numI a 255 ∧ 0 ≤ numI b 255 ∧ 0 ≤ numI c 255 ∧ 0 ≤ numI d 255 then some (byteOf (numI a 255), byteOf (numI b 255), byteOf (numI c 255), byteOf (numI d 255)) else none
  | _ => none
def addrV (a b c d : UInt8) : Value := .agg #[u8v a, u8v b, u8v c, u8v d]

theorem u8v_byteOf {x : Int} (h0 : 0 ≤ x) (h1 : x ≤ 255) : u8v (byteOf x) = .int .u8 x := by
  unfold u8v; rw [byteOf_val]; congr 1; omega
theorem size_bs (l : List UInt8) : (⟨l.toArray⟩ : ByteArray).size = l.length := by simp [ByteArray.size]
/-- What Parse answers. -/
def ParsePost (l : List UInt8) (w : World) (e : Ending) (w' : World) : Prop :=
  (match parse4 l with
   | none => e = .returned (.tuple #[addrV 0 0 0 0, .bool false])
   | some (a, b, c, d) => e = .returned (.tuple #[addrV a b c d, .bool true])) ∧ Below w.heap.size w w'
end Go.Proofs.YtdfobilagidmfaaDoor
