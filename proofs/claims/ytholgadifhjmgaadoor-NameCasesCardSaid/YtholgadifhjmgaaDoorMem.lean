/- What a slice of bytes reads as in a world, and a Reader's two cells in memory: plain facts, of no program. -/
import Derived.WalkKit
import Derived.Laws.BytesArg
import Derived.Laws.IdiomStrings
import Derived.Maps.AppendAt
namespace Go.Proofs.YtholgadifhjmgaaDoor
open Go.RowKit

/-- A byte as a cell's value. -/
def u8v (b : UInt8) : Value := .int .u8 (b.toNat : Int)

/-- The slice with address A, length n, capacity c reads as the bytes l. -/
def Sl (w : World) (A : Option Addr) (n c : Nat) (l : List UInt8) : Prop :=
  l.length = n ∧ n ≤ c ∧ c ≤ maxLen ∧ (0 < n → ∃ g o, A = some ⟨g, o, none⟩ ∧ ∀ j b, l[j]? = some b → w.cell? ⟨g, o + j, none⟩ = some (u8v b))

theorem cell_lt {w : World} {a : Addr} {v : Value} (h : w.cell? a = some v) : a.block < w.heap.size := by
  rcases Nat.lt_or_ge a.block w.heap.size with hlt | hge
  · exact hlt
  · simp [World.cell?, Array.getElem?_eq_none hge] at h

theorem Sl.nil (w : World) : Sl w none 0 0 [] := ⟨rfl, Nat.le_refl _, Nat.zero_le _, fun h => absurd h (by omega)⟩

theorem Sl.keep {w w' : World} {A : Option Addr} {n c : Nat} {l : List UInt8} (h : Sl w A n c l)
    (hk : ∀ g o b, w.cell? ⟨g, o, none⟩ = some (u8v b) → w'.cell? ⟨g, o, none⟩ = some (u8v b)) : Sl w' A n c l :=
  ⟨h.1, h.2.1, h.2.2.1, fun hn => by
    obtain ⟨g, o, e, hc⟩ := h.2.2.2 hn
    exact ⟨g, o, e, fun j b hj => hk _ _ _ (hc j b hj)⟩⟩

theorem Sl.below {w w' : World} {A : Option Addr} {n c : Nat} {l : List UInt8} (h : Sl w A n c l) (hb : Below w.heap.size w w') : Sl w' A n c l :=
  h.keep fun _ _ _ hc => (hb.cell (cell_lt hc)).trans hc

/-- A Reader at block g: its rest reads as l; is it short? -/
def Rd (w : World) (T : TypeId) (g : Nat) (l : List UInt8) (s : Bool) : Prop :=
  ∃ A n c, w.heap[g]? = some (.cells #[.slice A n c, .bool s] T (0, 0)) ∧ Sl w A n c l

theorem cell_of_rd {w : World} {T : TypeId} {g : Nat} {A : Option Addr} {n c : Nat} {s : Bool} (h : w.heap[g]? = some (.cells #[.slice A n c, .bool s] T (0, 0))) :
    w.cell? ⟨g, 0, none⟩ = some (.slice A n c) ∧ w.cell? ⟨g, 1, none⟩ = some (.bool s) := by
  simp [World.cell?, h]

/-- A slice's bytes lie in no Reader's block. -/
theorem byte_not_rd {w : World} {T : TypeId} {g o : Nat} {A : Option Addr} {n c : Nat} {s : Bool} {b : UInt8} {g' : Nat} (h : w.heap[g]? = some (.cells #[.slice A n c, .bool s] T (0, 0)))
    (hc : w.cell? ⟨g', o, none⟩ = some (u8v b)) : g' ≠ g := by
  rintro rfl
  simp [World.cell?, h, u8v] at hc
  match o, hc with
  | 0, hc => simp at hc
  | 1, hc => simp at hc
  | o + 2, hc => simp at hc

theorem Sl.far {w w' : World} {A : Option Addr} {n c : Nat} {l : List UInt8} (h : Sl w A n c l) {T : TypeId} {g : Nat} {l' : List UInt8} {s : Bool} (hr : Rd w T g l' s) (hg : w.grownBy w' (some g)) : Sl w' A n c l := by
  obtain ⟨A', n', c', hb, _⟩ := hr
  refine h.keep fun g' o b hc => ?_
  have hne := byte_not_rd hb hc
  exact (World.cell?_of_block (w := w) (hg.block g' (cell_lt hc) (fun e => hne (by injection e)))).trans hc

theorem Rd.lt {w : World} {T : TypeId} {g : Nat} {l : List UInt8} {s : Bool} (h : Rd w T g l s) : g < w.heap.size := by
  obtain ⟨A, n, c, hb, _⟩ := h
  exact cell_lt (a := ⟨g, 0, none⟩) (cell_of_rd hb).1

theorem Rd.below {w w' : World} {T : TypeId} {g : Nat} {l : List UInt8} {s : Bool} (h : Rd w T g l s) (hb : Below w.heap.size w w') : Rd w' T g l s := by
  have hlt := h.lt
  obtain ⟨A, n, c, h1, h2⟩ := h
  exact ⟨A, n, c, (hb.block g hlt).trans h1, h2.below hb⟩

theorem Sl.take {w : World} {A : Option Addr} {n c k : Nat} {l : List UInt8} (h : Sl w A n c l) (hk : k ≤ n) : Sl w A k c (l.take k) := by
  obtain ⟨h1, h2, h3, h4⟩ := h
  refine ⟨by rw [List.length_take]; omega, by omega, h3, fun hn => ?_⟩
  obtain ⟨g, o, e, hc⟩ := h4 (by omega)
  refine ⟨g, o, e, fun j b hj => hc j b ?_⟩
  rw [List.getElem?_take] at hj
  split at hj
  · exact hj
  · cases hj

theorem Sl.drop {w : World} {A : Option Addr} {n c k : Nat} {l : List UInt8} (h : Sl w A n c l) (hk : k ≤ n) :
    Sl w (if c = k then A else A.map (·.add (k * 1))) (n - k) (c - k) (l.drop k) := by
  obtain ⟨h1, h2, h3, h4⟩ := h
  refine ⟨by rw [List.length_drop]; omega, by omega, by omega, fun hn => ?_⟩
  obtain ⟨g, o, rfl, hc⟩ := h4 (by omega)
  rw [if_neg (by omega)]
  refine ⟨g, o + k, ?_, fun j b hj => ?_⟩
  · by_cases h0 : k = 0
    · subst h0; simp [Addr.add]
    · simp [Addr.add, h0]
  · rw [List.getElem?_drop] at hj
    rw [Nat.add_assoc]
    exact hc _ _ hj

/-- 'string(b)'. -/
theorem Sl.str {P : Program} {w : World} {A : Option Addr} {n c : Nat} {l : List UInt8} (h : Sl w A n c l) (src e dst : TypeId) (hs : P.underlying src = some (.slice e)) (he : P.underlying e = some (.int .u8)) (hd : P.underlying dst = some .string) :
    (convert src dst (.slice A n c)).run P w = .ok (.string ⟨l.toArray⟩) w := by
  obtain ⟨h1, h2, h3, h4⟩ := h
  rcases Nat.eq_zero_or_pos n with h0 | h0
  · subst h0
    obtain rfl := List.eq_nil_of_length_eq_zero h1
    rcases A with _ | ad
    · exact run_convert_bytes_nil w src e hs he _ _ dst hd
    · exact run_convert_bytes_back w src dst e ad c [] hs he hd (fun j hj => absurd hj (by simp))
  · obtain ⟨g, o, rfl, hc⟩ := h4 h0
    rw [← h1]
    refine run_convert_bytes_back w src dst e ⟨g, o, none⟩ c l hs he hd (fun j hj => ?_)
    rw [Addr.add_lit]
    exact hc j _ (List.getElem?_eq_getElem hj)

/-- What owns a row of bytes reads as these bytes. -/
theorem Sl.of_own {w : World} {base : Nat} {e : TypeId} {v : Value} {l : List UInt8} {n : Nat} (h : w.ownsRow base e 1 v n (l.map u8v)) : ∃ A c, v = .slice A n c ∧ Sl w A n c l := by
  have hl : l.length = n := by simpa using h.1
  rcases h.2 with ⟨rfl, rfl⟩ | ⟨g, cap, cur, rfl, _, hh, hn, hm, hs, ht⟩
  · exact ⟨none, 0, rfl, hl, Nat.le_refl _, Nat.zero_le _, fun h => absurd h (by omega)⟩
  · refine ⟨_, _, rfl, hl, hn, hm, fun _ => ⟨g, 0, rfl, fun j b hj => ?_⟩⟩
    have hjl : j < l.length := (List.getElem?_eq_some_iff.1 hj).1
    have e1 : cur.toList[j]? = some (u8v b) := by
      have : (cur.toList.take (n * 1))[j]? = some (u8v b) := by rw [ht]; simp [hj]
      rw [List.getElem?_take] at this
      split at this
      · exact this
      · cases this
    simp [World.cell?, hh]
    simpa using e1

/-- The cells of a slice, as the laws on append ask for them. -/
theorem Sl.cells {w : World} {A : Option Addr} {n c : Nat} {l : List UInt8} (h : Sl w A n c l) : ∀ ad, A = some ad → ∀ j u, (l.map u8v)[j]? = some u → w.cell? (ad.add j) = some u := by
  intro ad hA j u hu
  have hj : j < l.length := by
    have := (List.getElem?_eq_some_iff.1 hu).1
    simpa using this
  obtain ⟨g, o, e, hc⟩ := h.2.2.2 (by have := h.1; omega)
  rw [hA] at e
  obtain rfl := Option.some.inj e
  rw [Addr.add_lit, hc j _ (List.getElem?_eq_getElem hj)]
  simpa [List.getElem?_eq_getElem hj] using hu

theorem oneCell_u8 (l : List UInt8) : ∀ u ∈ l.map u8v, u.oneCell' = true := by
  intro u hu
  obtain ⟨_, _, rfl⟩ := List.mem_map.1 hu
  rfl

/-- append of bytes onto a row of the call's own, whatever the source. -/
theorem run_append_bytes {P : Program} (w : World) (base : Nat) (t ty e : TypeId) (i : TypeInfo) (z : Value) (ht : P.underlying t = some (.slice e)) (hi : P.info? e = some i) (hz : i.zero = some z)
    (hsize : i.size = 1) (hby : i.bytes = 1) (hzs : z.cells.size = 1)
    (v : Value) (n : Nat) (l : List UInt8) (hown : w.ownsRow base e 1 v n (l.map u8v))
    (A : Option Addr) (m c : Nat) (l2 : List UInt8) (hr : Sl w A m c l2)
    (h63 : n + m ≤ 140737488355328) (hbase : base ≤ w.heap.size) :
    ∃ v' w', (Builtin.append_ #[t, t] ty #[v, .slice A m c]).run P w = .ok v' w' ∧ w'.ownsRow base e 1 v' (n + m) ((l ++ l2).map u8v) ∧ w.grownBy w' v.ownBlock ∧
      (v'.ownBlock = v.ownBlock ∨ v'.ownBlock = some w.heap.size) := by
  have hlen : (l2.map u8v).length = m * 1 := by rw [List.length_map, hr.1]; omega
  rw [List.map_append]
  rcases A with _ | ad
  · have hm : m = 0 := by
      rcases Nat.eq_zero_or_pos m with h0 | h0
      · exact h0
      · obtain ⟨g, o, h, _⟩ := hr.2.2.2 h0
        cases h
    subst hm
    have hn : l2 = [] := List.eq_nil_of_length_eq_zero hr.1
    subst hn
    refine ⟨v, w, ?_, by simpa using hown, World.grownBy.refl w _, .inl rfl⟩
    rcases hown.2 with ⟨rfl, rfl⟩ | ⟨g, cap, cur, rfl, _, _, hnc, _⟩
    · simp [Builtin.append_, run_underlying ht, sizeOf, typeInfo, hi, Builtin.lenOf, Builtin.firstCells]
    · simp [Builtin.append_, run_underlying ht, sizeOf, typeInfo, hi, Builtin.lenOf, Builtin.firstCells, hnc, storeCells]
  · obtain ⟨v', w', h1, h2, h3, _, h5⟩ := run_append_own_at (P := P) w base t ty e i z 1 1 ht hi hz hsize hby hzs (by omega) v n (l.map u8v) hown ad m c (l2.map u8v) hlen (hr.cells ad rfl) (oneCell_u8 l2)
      (by unfold maxLen; omega) (by omega) hbase
    exact ⟨v', w', h1, h2, h3, h5⟩

/-- The same at the operation, for the walk. -/
theorem wpList_append_bytes {P : Program} (w : World) {ops : Array Oper} {rest : List Oper} {o : Oper} {a : Act} {Q : Exit → Act → World → Prop} (hgd : o.guard = none) (s x : Operand) (t : TypeId)
    (ho : o.op = .call { callee := .builtin .append, args := #[s, x], argTypes := #[t, t] })
    (base : Nat) (e : TypeId) (i : TypeInfo) (z : Value) (ht : P.underlying t = some (.slice e)) (hi : P.info? e = some i) (hz : i.zero = some z)
    (hsize : i.size = 1) (hby : i.bytes = 1) (hzs : z.cells.size = 1)
    (v : Value) (n : Nat) (l : List UInt8) (hs : a.eval s = v) (hown : w.ownsRow base e 1 v n (l.map u8v))
    (A : Option Addr) (m c : Nat) (l2 : List UInt8) (hx : a.eval x = .slice A m c) (hr : Sl w A m c l2)
    (h63 : n + m ≤ 140737488355328) (hbase : base ≤ w.heap.size)
    (h : ∀ v' w', w'.ownsRow base e 1 v' (n + m) ((l ++ l2).map u8v) → w.grownBy w' v.ownBlock → (v'.ownBlock = v.ownBlock ∨ v'.ownBlock = some w.heap.size) → wpList P ops Q rest (a.put o.dst v') w') :
    wpList P ops Q (o :: rest) a w := by
  refine wpList_plain hgd fun K hK => ?_
  obtain ⟨v', w', hr, h2, h3, h5⟩ := run_append_bytes (P := P) w base t o.type e i z ht hi hz hsize hby hzs v n l hown A m c l2 hr h63 hbase
  unfold Oper.wp execOp
  simp only [ho, resolve, invoke, builtin, Sem.run_bind, Sem.run_pure, Result.andThen_ok, List.map_toArray, List.map_cons, List.map_nil, hs, hx, hr]
  exact hK _ _ (h v' w' h2 h3 h5)

/-- A store into a Reader's first cell; into both. -/
theorem set_first {w : World} {T : TypeId} {g : Nat} {x y u : Value} (h : w.heap[g]? = some (.cells #[x, y] T (0, 0))) : (w.setCell ⟨g, 0, none⟩ u).heap[g]? = some (.cells #[u, y] T (0, 0)) := by
  simp [World.setCell, Array.getElem?_modify, h]
theorem set_second {w : World} {T : TypeId} {g : Nat} {x y u : Value} (h : w.heap[g]? = some (.cells #[x, y] T (0, 0))) : (w.setCell ⟨g, 1, none⟩ u).heap[g]? = some (.cells #[x, u] T (0, 0)) := by
  simp [World.setCell, Array.getElem?_modify, h]
theorem grown_set {a w : World} {g : Nat} (h : a.grownBy w (some g)) (i : Nat) (u : Value) : a.grownBy (w.setCell ⟨g, i, none⟩ u) (some g) :=
  ⟨h.os, h.tape, h.output, by simpa [World.setCell] using h.size, fun k hk hne => (Below.heap_setCell w ⟨g, i, none⟩ u k (fun e => hne (by rw [e]))).trans (h.block k hk hne)⟩
theorem grown_of_below {a w : World} {row : Option Nat} (h : Below a.heap.size a w) : a.grownBy w row := ⟨h.os, h.tape, h.output, h.size, fun i hi _ => h.block i hi⟩

/-- A Reader that has been written anew: its rest a piece of what it was. -/
theorem Rd.set {w w' : World} {T : TypeId} {g : Nat} {l l' : List UInt8} {s s' : Bool} {A : Option Addr} {n c : Nat} (hr : Rd w T g l s) (hg : w.grownBy w' (some g)) (hb : w'.heap[g]? = some (.cells #[.slice A n c, .bool s'] T (0, 0)))
    (hs : Sl w A n c l') : Rd w' T g l' s' := ⟨A, n, c, hb, hs.far hr hg⟩

/-- The number that bytes spell, the first byte the greatest. -/
def be (l : List UInt8) : Nat := l.foldl (fun v b => v * 256 + b.toNat) 0
theorem be_snoc (l : List UInt8) (b : UInt8) : be (l ++ [b]) = be l * 256 + b.toNat := by simp [be, List.foldl_append]
theorem be_lt : ∀ (n : Nat) (l : List UInt8), l.length = n → be l < 256 ^ n := by
  intro n
  induction n with
  | zero => intro l hl; obtain rfl := List.eq_nil_of_length_eq_zero hl; simp [be]
  | succ n ih =>
    intro l hl
    have hne : l ≠ [] := by rintro rfl; simp at hl
    rw [← List.dropLast_concat_getLast hne, be_snoc]
    have h1 := ih l.dropLast (by simp; omega)
    have h2 := (l.getLast hne).toNat_lt
    rw [Nat.pow_succ]; omega

theorem or_u32 (v u : Nat) (hv : v < 16777216) (hu : u < 256) : bits .or .u32 ((v : Int) * 256) (u : Int) = ((v * 256 + u : Nat) : Int) := by
  have e1 : (v : Int) * 256 = ((v * 256 : Nat) : Int) := by omega
  rw [e1]
  show IntKind.u32.wrap ((BitVec.ofInt 32 ((v * 256 : Nat) : Int) ||| BitVec.ofInt 32 (u : Int)).toNat : Int) = _
  rw [BitVec.toNat_or, BitVec.ofInt_natCast, BitVec.ofInt_natCast, BitVec.toNat_ofNat, BitVec.toNat_ofNat, Nat.mod_eq_of_lt (by omega), Nat.mod_eq_of_lt (by omega)]
  have e2 : v * 256 ||| u = v * 256 + u := by
    have := Nat.two_pow_add_eq_or_of_lt (i := 8) (b := u) (by omega) v
    rw [Nat.mul_comm] at this
    exact this.symm
  rw [e2]
  simp [IntKind.wrap, IntKind.signed, IntKind.bits]
  omega

/-- A new block of bytes. -/
theorem Sl.made (w : World) (T : TypeId) (l : List UInt8) (h : l.length ≤ maxLen) : Sl (w.alloc (.cells (l.map u8v).toArray T)) (some ⟨w.heap.size, 0, none⟩) l.length l.length l := by
  refine ⟨rfl, Nat.le_refl _, h, fun _ => ⟨_, _, rfl, fun j b hj => ?_⟩⟩
  have h1 := heap_alloc_new w (.cells (l.map u8v).toArray T)
  simp only [World.cell?, h1]
  simp [hj]

/-- The byte of a number. -/
def byteOf (v : Int) : UInt8 := UInt8.ofNat (v % 256).toNat
theorem byteOf_val (v : Int) : ((byteOf v).toNat : Int) = v % 256 := by
  have h1 : 0 ≤ v % 256 := Int.emod_nonneg _ (by omega)
  have h2 : v % 256 < 256 := Int.emod_lt_of_pos _ (by omega)
  unfold byteOf
  rw [UInt8.toNat_ofNat']
  omega
/-- A number in two bytes, in four. -/
def two (v : Int) : List UInt8 := [byteOf (v / 256), byteOf v]
def four (v : Int) : List UInt8 := [byteOf (v / 16777216), byteOf (v / 65536), byteOf (v / 256), byteOf v]

theorem byteOf_mod (v : Int) (m : Int) (h : m % 256 = 0) : byteOf (v % m) = byteOf v := by
  unfold byteOf
  rw [Int.emod_emod_of_dvd v (Int.dvd_of_emod_eq_zero h)]
theorem four_two (v : Int) : two (v / 65536) ++ two (v % 65536) = four v := by
  have e1 : v / 65536 / 256 = v / 16777216 := by omega
  have e2 : byteOf (v % 65536 / 256) = byteOf (v / 256) := by
    unfold byteOf
    have : v % 65536 / 256 % 256 = v / 256 % 256 := by omega
    rw [this]
  simp [two, four, e1, e2, byteOf_mod]

theorem be_two (a b : UInt8) : be [a, b] = a.toNat * 256 + b.toNat := by simp [be]
theorem be_from (t : List UInt8) : ∀ a : Nat, t.foldl (fun v b => v * 256 + b.toNat) a = a * 256 ^ t.length + be t := by
  unfold be
  induction t with
  | nil => intro a; simp
  | cons b t ih =>
    intro a
    rw [List.foldl_cons, ih, List.foldl_cons, ih (0 * 256 + b.toNat), List.length_cons, Nat.pow_succ, Nat.add_mul, Nat.zero_mul, Nat.zero_add, Nat.mul_assoc, Nat.mul_comm 256, Nat.add_assoc]
theorem be_append (l t : List UInt8) : be (l ++ t) = be l * 256 ^ t.length + be t := by
  show (l ++ t).foldl _ 0 = _
  rw [List.foldl_append, be_from]
  rfl
theorem be_byteOf (v : Int) : (be (two v) : Int) = v % 65536 := by
  rw [two, be_two]
  have h1 := byteOf_val (v / 256)
  have h2 := byteOf_val v
  rw [Int.natCast_add, Int.natCast_mul, h1, h2]
  omega
theorem be_four (v : Int) : (be (four v) : Int) = v % 4294967296 := by
  rw [← four_two, be_append, Int.natCast_add, Int.natCast_mul, be_byteOf, be_byteOf]
  show v / 65536 % 65536 * (((256 : Nat) ^ 2 : Nat) : Int) + v % 65536 % 65536 = _
  omega

theorem and_u32 (v : Int) (h0 : 0 ≤ v) (h1 : v < 4294967296) : bits .and .u32 v 65535 = v % 65536 := by
  obtain ⟨n, rfl⟩ := Int.eq_ofNat_of_zero_le h0
  have h := u32_and_nat n 65535 (by omega) (by omega)
  have e : n &&& 65535 = n % 65536 := Nat.and_two_pow_sub_one_eq_mod n 16
  rw [e] at h
  exact h
theorem or_i64 (x y : Nat) (hx : x < 256) (hy : y < 256) : bits .or .i64 ((x : Int) * 256) (y : Int) = ((x * 256 + y : Nat) : Int) := by
  have e1 : (x : Int) * 256 = ((x * 256 : Nat) : Int) := by omega
  rw [e1]
  show IntKind.i64.wrap ((BitVec.ofInt 64 ((x * 256 : Nat) : Int) ||| BitVec.ofInt 64 (y : Int)).toNat : Int) = _
  rw [BitVec.toNat_or, BitVec.ofInt_natCast, BitVec.ofInt_natCast, BitVec.toNat_ofNat, BitVec.toNat_ofNat, Nat.mod_eq_of_lt (by omega), Nat.mod_eq_of_lt (by omega), nat_join 8 _ _ (by omega) (by omega), IntKind.wrap_i64]
  omega
theorem or_u32_16 (x y : Nat) (hx : x < 65536) (hy : y < 65536) : bits .or .u32 ((x : Int) * 65536) (y : Int) = ((x * 65536 + y : Nat) : Int) := by
  have e1 : (x : Int) * 65536 = ((x * 65536 : Nat) : Int) := by omega
  rw [e1, u32_or_nat _ _ (by omega) (by omega), nat_join 16 _ _ (by omega) (by omega)]

/-- A Reader stays as it is while another one reads. -/
theorem Rd.far {w w' : World} {T : TypeId} {g s : Nat} {l l' : List UInt8} {b b' : Bool} (h : Rd w T g l b) (hs : Rd w T s l' b') (hne : g ≠ s) (hg : w.grownBy w' (some s)) : Rd w' T g l b := by
  have hlt := h.lt
  obtain ⟨A, n, c, h1, h2⟩ := h
  exact ⟨A, n, c, (hg.block g hlt (fun e => hne (by injection e))).trans h1, h2.far hs hg⟩

/-- A slice of bytes that came in, as a row's opening tells it. -/
theorem sl_of_row {w : World} {a : Option Addr} {len cap : Nat} {zs : List Int}
    (h : (a = none ∧ len = 0 ∧ cap = 0 ∧ zs = []) ∨ ∃ x, a = some x ∧ len ≤ cap ∧ cap ≤ maxLen ∧ zs.length = cap ∧ (∀ i, i < zs.length → w.cell? (x.add i) = some (.int .u8 (zs.getD i 0))) ∧ ∀ n ∈ zs, (Lit.int .u8 n).wf = true) :
    ∃ l, Sl w a len cap l := by
  rcases h with ⟨rfl, rfl, rfl, rfl⟩ | ⟨x, rfl, hl, hm, hz, hcell, hwz⟩
  · exact ⟨[], Sl.nil w⟩
  · refine ⟨(zs.take len).map byteOf, by simp; omega, hl, hm, fun hn => ?_⟩
    have hb : ∀ n ∈ zs, ((byteOf n).toNat : Int) = n := by
      intro n hn
      have h := hwz n hn
      simp [Lit.wf, IntKind.min, IntKind.max, IntKind.signed, IntKind.bits] at h
      rw [byteOf_val]; omega
    obtain ⟨b, off, spot⟩ := x
    have h0 := hcell 0 (by omega)
    have hspot : spot = none := by simpa [Addr.add] using World.cell?_spot h0
    subst hspot
    refine ⟨b, off, rfl, fun j u hj => ?_⟩
    have hjl : j < zs.length := by
      have := (List.getElem?_eq_some_iff.1 hj).1
      simp at this; omega
    have hc := hcell j hjl
    rw [Addr.add_lit] at hc
    rw [hc]
    rw [List.getElem?_map, List.getElem?_take] at hj
    split at hj
    · rw [List.getElem?_eq_getElem hjl] at hj
      simp only [Option.map_some, Option.some.injEq] at hj
      subst hj
      simp [u8v, hb _ (List.getElem_mem hjl), List.getD, List.getElem?_eq_getElem hjl]
    · simp at hj

theorem cat_bytes (a b : List UInt8) : (⟨a.toArray⟩ ++ ⟨b.toArray⟩ : ByteArray) = ⟨(a ++ b).toArray⟩ := by
  apply ByteArray.ext
  simp [ByteArray.data_append]

theorem be_cons (a : UInt8) (x : List UInt8) : be (a :: x) = a.toNat * 256 ^ x.length + be x := by
  have h := be_append [a] x
  have e : be [a] = a.toNat := by simp [be]
  rw [e] at h
  exact h
/-- Of two lists of one length the bytewise order is the numbers'. -/
theorem bytesLess_be : ∀ x y : List UInt8, x.length = y.length → Op.bytesLess x y = decide (be x < be y)
  | [], [], _ => rfl
  | a :: x, b :: y, h => by
    have hl : x.length = y.length := by simpa using h
    have ih := bytesLess_be x y hl
    have hx := be_lt x.length x rfl
    have hy := be_lt y.length y rfl
    rw [be_cons, be_cons, hl]
    rw [hl] at hx
    generalize 256 ^ y.length = M at *
    unfold Op.bytesLess
    rw [ih]
    rcases Nat.lt_trichotomy a.toNat b.toNat with g | g | g
    · have h1 : a < b := UInt8.lt_iff_toNat_lt.2 g
      have h2 : (a.toNat + 1) * M ≤ b.toNat * M := Nat.mul_le_mul_right _ g
      rw [Nat.add_mul] at h2
      have h3 : a.toNat * M + be x < b.toNat * M + be y := by omega
      simp [h1, h3]
    · have h1 : a = b := UInt8.toNat_inj.1 g
      subst h1
      have h2 : ¬ a < a := by rw [UInt8.lt_iff_toNat_lt]; omega
      simp [h2]
    · have h1 : ¬ a < b := by rw [UInt8.lt_iff_toNat_lt]; omega
      have h1' : ¬ a = b := by rintro rfl; omega
      have h2 : (b.toNat + 1) * M ≤ a.toNat * M := Nat.mul_le_mul_right _ g
      rw [Nat.add_mul] at h2
      have h3 : ¬ a.toNat * M + be x < b.toNat * M + be y := by omega
      simp [h1, h1', h3]
theorem less_four (a b : Int) (a0 : 0 ≤ a) (a1 : a < 4294967296) (b0 : 0 ≤ b) (b1 : b < 4294967296) : Op.bytesLess (four a) (four b) = decide (a < b) := by
  rw [bytesLess_be (four a) (four b) rfl]
  have h1 := be_four a
  have h2 := be_four b
  have e : be (four a) < be (four b) ↔ a < b := by omega
  simp only [e]
theorem i64_and65535 (n : Int) : bits .and .i64 n 65535 = n % 65536 := by
  have hm : (BitVec.ofInt 64 65535).toNat = 2 ^ 16 - 1 := by decide
  have key : (BitVec.ofInt 64 n &&& BitVec.ofInt 64 65535).toNat = (n % ((2 ^ 64 : Nat) : Int)).toNat % 2 ^ 16 := by
    rw [BitVec.toNat_and, BitVec.toNat_ofInt, hm, Nat.and_two_pow_sub_one_eq_mod]
  show IntKind.i64.wrap ((BitVec.ofInt 64 n &&& BitVec.ofInt 64 65535).toNat : Nat) = n % 65536
  rw [key, IntKind.wrap_i64]
  omega
theorem less_two (c d : Int) : Op.bytesLess (two c) (two d) = decide (c % 65536 < d % 65536) := by
  rw [bytesLess_be (two c) (two d) rfl]
  have h1 := be_byteOf c
  have h2 := be_byteOf d
  have e : be (two c) < be (two d) ↔ c % 65536 < d % 65536 := by omega
  simp only [e]

end Go.Proofs.YtholgadifhjmgaaDoor
